/- PROVED HERE: Rows.NumberBestSaid: agraffelaw01.NumberBest returns true for every input, and its arguments read behind the call as before. -/
import Derived.Test.YtfmonpjoadjimacOpen
import Derived.Test.YtfmonpjoadjimacAwake
import Derived.Test.YtfmonpjoadjimacLive
import Derived.Test.YtfmonpjoadjimacRefDots
import Derived.Test.YtfmonpjoadjimacLine
namespace Go.Proofs.Ytfmonpjoadjimac
open Go.ChangeShapes Go.WideShapes Go.ChangeAt Go.RowKit Go.Joins
set_option linter.unusedVariables false
set_option linter.unusedSimpArgs false

theorem Dots.mono {w : World} {B B' : Nat} {A : Option Addr} {ds : List (Int × Int)} (h : Dots w B A ds) (hB : B ≤ B') : Dots w B' A ds := fun h0 => by
  obtain ⟨b, off, e, hb, hc⟩ := h h0
  exact ⟨b, off, e, Nat.lt_of_lt_of_le hb hB, hc⟩
theorem fitF_small {n d : Int} (hn : -1000000000 ≤ n ∧ n ≤ 1000000000) (hd : 1 ≤ d ∧ d ≤ 1000000000) : fitF n d := by
  refine ⟨lowF_lowest hd.1, ?_, ?_⟩
  · have e : (n.tdiv (gcdF n d)).natAbs = n.natAbs / ((gcdF n d : Nat) : Int).natAbs := Int.natAbs_tdiv n _
    have l := Nat.div_le_self n.natAbs ((gcdF n d : Nat) : Int).natAbs
    omega
  · exact Int.le_trans (Int.ediv_le_self _ (by omega)) hd.2
/-- A fraction in lowest terms is the fraction. -/
theorem low_cross {n d : Int} (hn : 0 ≤ n ∧ n ≤ 1000000000) (hd : 1 ≤ d ∧ d ≤ 1000000000) : 0 ≤ lN n d ∧ lN n d ≤ n ∧ 1 ≤ lD n d ∧ lD n d ≤ d ∧ lN n d * d = n * lD n d ∧ lE n d = 0 := by
  have hf := fitF_small (n := n) (by omega) hd
  have hg := gcdF_pos (n := n) hd.1
  unfold lN lD lE
  rw [if_pos hf, if_pos hf, if_pos hf]
  have d1 : ((gcdF n d : Nat) : Int) ∣ n := Int.natAbs_dvd_natAbs.1 (by simpa [gcdF] using Nat.gcd_dvd_left n.natAbs d.natAbs)
  have d2 : ((gcdF n d : Nat) : Int) ∣ d := Int.natAbs_dvd_natAbs.1 (by simpa [gcdF] using Nat.gcd_dvd_right n.natAbs d.natAbs)
  rw [Int.tdiv_eq_ediv_of_nonneg hn.1]
  obtain ⟨g, hge⟩ : ∃ g : Int, g = ((gcdF n d : Nat) : Int) := ⟨_, rfl⟩
  rw [← hge] at d1 d2 ⊢
  have e1 := Int.mul_ediv_cancel' d1
  have e2 := Int.mul_ediv_cancel' d2
  have g1 : 1 ≤ g := by omega
  obtain ⟨x, hx⟩ : ∃ x, x = n / g := ⟨_, rfl⟩
  obtain ⟨y, hy⟩ : ∃ x, x = d / g := ⟨_, rfl⟩
  rw [← hx] at e1 ⊢
  rw [← hy] at e2 ⊢
  have x0 : 0 ≤ x := by rw [hx]; exact Int.ediv_nonneg hn.1 (by omega)
  have y1 : 1 ≤ y := by
    rcases Int.lt_or_le y 1 with h | h
    · have : g * y ≤ g * 0 := Int.mul_le_mul_of_nonneg_left (by omega) (by omega)
      omega
    · exact h
  refine ⟨x0, ?_, y1, ?_, ?_, rfl⟩
  · have : 1 * x ≤ g * x := Int.mul_le_mul_of_nonneg_right g1 x0
    omega
  · have : 1 * y ≤ g * y := Int.mul_le_mul_of_nonneg_right g1 (by omega)
    omega
  · rw [← e1, ← e2]; ac_rfl

/-- How far a dot lies above the other line. -/
def offD (ds : List (Int × Int)) (start slope : Int) (i : Nat) : Int := dY ds i - start - slope * dX ds i
theorem bend_off (ax ay bx by' cx cy s k : Int) : bendH ax ay bx by' cx cy = (by' - s - k * bx) * (cx - ax) - (ay - s - k * ax) * (cx - bx) - (cy - s - k * cx) * (bx - ax) := by
  unfold bendH
  simp only [Int.sub_mul, Int.mul_sub, Int.mul_assoc, Int.mul_comm, Int.mul_left_comm]
  omega
theorem mul_abs_le {e W z : Int} (he : -W ≤ e ∧ e ≤ W) (hz : 0 ≤ z) : -(W * z) ≤ e * z ∧ e * z ≤ W * z := by
  have h1 := Int.mul_le_mul_of_nonneg_right he.2 hz
  have h2 := Int.mul_le_mul_of_nonneg_right he.1 hz
  rw [Int.neg_mul] at h2
  exact ⟨h2, h1⟩
theorem bend_le {ax ay bx by' cx cy s k W : Int} (h1 : ax < bx) (h2 : bx < cx) (ha : -W ≤ ay - s - k * ax ∧ ay - s - k * ax ≤ W) (hb : -W ≤ by' - s - k * bx ∧ by' - s - k * bx ≤ W) (hc : -W ≤ cy - s - k * cx ∧ cy - s - k * cx ≤ W) :
    ((bendH ax ay bx by' cx cy).natAbs : Int) ≤ W * (2 * (cx - ax)) := by
  rw [bend_off ax ay bx by' cx cy s k]
  have m1 := mul_abs_le hb (show 0 ≤ cx - ax by omega)
  have m2 := mul_abs_le ha (show 0 ≤ cx - bx by omega)
  have m3 := mul_abs_le hc (show 0 ≤ bx - ax by omega)
  have e : W * (2 * (cx - ax)) = W * (cx - ax) + W * (cx - bx) + W * (bx - ax) := by
    rw [← Int.mul_add, ← Int.mul_add]; congr 1; omega
  rw [e]
  omega
theorem cross_le {n d b W t : Int} (ht : 1 ≤ t) (h0 : 0 ≤ d) (h1 : n * t = b * d) (h2 : b ≤ W * t) : n ≤ W * d := by
  rcases Int.lt_or_le (W * d) n with h | h
  · exfalso
    have k1 : b * d ≤ W * t * d := Int.mul_le_mul_of_nonneg_right h2 h0
    have k2 : (W * d + 1) * t ≤ n * t := Int.mul_le_mul_of_nonneg_right (by omega) (by omega)
    have e : W * t * d = W * d * t := by ac_rfl
    rw [Int.add_mul, Int.one_mul] at k2
    omega
  · exact h

theorem okT_kTo {ds : List (Int × Int)} {i j : Nat} {p : Nat × Nat × Nat} (hp : okT ds.length p) (hi : i < j) : ∀ t, j + t < ds.length → okT ds.length (kTo ds i j t p)
  | 0, _ => hp
  | t + 1, h => okT_pick (okT_kTo hp hi t (by omega)) hi (by omega) (by omega)
theorem okT_jTo {ds : List (Int × Int)} {i : Nat} {p : Nat × Nat × Nat} (hp : okT ds.length p) : ∀ t, i + t < ds.length → okT ds.length (jTo ds i t p)
  | 0, _ => hp
  | t + 1, h => okT_kTo (okT_jTo hp t (by omega)) (by omega) _ (by omega)
theorem okT_iTo {ds : List (Int × Int)} {p : Nat × Nat × Nat} (hp : okT ds.length p) : ∀ t, t ≤ ds.length → okT ds.length (iTo ds t p)
  | 0, _ => hp
  | t + 1, h => okT_jTo (okT_iTo hp t (by omega)) _ (by omega)
theorem okT_best {ds : List (Int × Int)} (h : 3 ≤ ds.length) : okT ds.length (bestT ds) := okT_iTo ⟨by decide, by decide, by show 2 < ds.length; omega⟩ _ (Nat.le_refl _)

theorem quiet_plain {P : Program} {f : FuncId} {args : Array Value} {w : World} {n : Nat} {v : Value} (h : Calls P f args (w.drewN n) fun e w' => e = .returned v ∧ w.drewN n = w') :
    Calls P f args (w.drewN n) fun e w'' => e = .returned v ∧ ∃ m, w'' = w.drewN m := h.mono fun _ _ ⟨he, hm⟩ => ⟨he, n, hm.symm⟩

set_option maxHeartbeats 4000000 in
set_option maxRecDepth 100000 in
theorem numberBest_walk (A : Option Addr) (n cap : Nat) (ds : List (Int × Int)) (s k : Int) (w : World) (h_s : -9223372036854775808 ≤ s ∧ s ≤ 9223372036854775807) (h_k : -9223372036854775808 ≤ k ∧ k ≤ 9223372036854775807) (hn : ds.length = n) (hD : Dots w w.heap.size A ds) :
    Calls Try.prog 4 #[.slice A n cap, .int .i64 s, .int .i64 k] w fun x w' => x = .returned (.bool true) ∧ Below w.heap.size w w' := by
  have HN := hide hn
  have HD := hide hD
  clear hn hD
  have L0 := hide (Lv.start w)
  by_cases hn12 : (n : Int) ≤ 12
  · have hn12' : ¬ (12 : Int) < (n : Int) := by omega
    go_enter Try.func4, Try.ntmps4
    go_wp2_with fail
    refine Lv.call (awake_any _) L0.out ?_
    intro w2 L2'
    have L2 := hide L2'
    have F2 := L2'.at
    clear L2'
    simp only [AllAt, CellsAt, updL, List.map, Nat.zero_add, Nat.reduceAdd, and_true, World.size_alloc, World.heap_drewN, heap_drew, size_set, Nat.add_eq_left, Nat.left_eq_add, Nat.add_right_cancel_iff, Nat.reduceEqDiff, Nat.one_ne_zero, Nat.succ_ne_zero, Nat.zero_ne_one, reduceIte, List.set_cons_zero, List.set_cons_succ] at F2
    have D2 : Hid (Dots w2 w2.heap.size A ds) := (HD.out.kept L2.out.below).mono L2.out.size
    go_wp2_with fail
    refine Lv.call (refDots_any A n cap ds _ HN.out D2.out) L2.out ?_
    intro w3 L3'
    have L3 := hide L3'
    have F3 := L3'.at
    clear L3' F2
    simp only [AllAt, CellsAt, updL, List.map, Nat.zero_add, Nat.reduceAdd, and_true, World.size_alloc, World.heap_drewN, heap_drew, size_set, Nat.add_eq_left, Nat.left_eq_add, Nat.add_right_cancel_iff, Nat.reduceEqDiff, Nat.one_ne_zero, Nat.succ_ne_zero, Nat.zero_ne_one, reduceIte, List.set_cons_zero, List.set_cons_succ] at F3
    have D3 : Hid (Dots w3 w.heap.size A ds) := HD.out.kept L3.out.below
    by_cases hok : dotsErr ds = 0
    · have HOK := hide (dots_ok hok)
      have HOK0 := hide hok
      rw [hok]
      clear hok D2
      by_cases hs : -20000 ≤ s ∧ s ≤ 20000
      · have hbs : inR s (-20000) 20000 = true := inR_yes hs
        by_cases hk : -20000 ≤ k ∧ k ≤ 20000
        · have hbk : inR k (-20000) 20000 = true := inR_yes hk
          go_wp2_with fail
          refine Lv.same (within3_any s (-20000) 20000 _) ?_
          rw [hbs]
          go_wp2_with fail
          refine Lv.same (within3_any k (-20000) 20000 _) ?_
          rw [hbk]
          have hn3 : 3 ≤ n := by rw [← HN.out]; exact HOK.out.three
          obtain ⟨b, off, hA, hb, hc⟩ := HD.out (by rw [HN.out]; omega)
          subst hA
          have hz3 := L3.out.size
          have HC := hide hc
          have CL := hide (fun W hW => line_good b off n cap ds W HN.out hW HOK0.out)
          clear hc D3
          have hz3' : w.heap.size ≤ w3.heap.size := L3.out.size
          go_wp2_with fail
          refine (CL.out _ (by omega) (fun i hi => ?_)).mono ?_
          · obtain ⟨g1, g2⟩ := HC.out i (by rw [HN.out]; exact hi)
            exact ⟨(L3.out.below.cell (by exact hb)).trans g1, (L3.out.below.cell (by exact hb)).trans g2⟩
          rintro e w4 ⟨hb4, rfl⟩
          have L4 := hide (L3.out.kept hb4)
          clear hb4 CL
          have hT := okT_best (ds := ds) HOK.out.three
          obtain ⟨p, hp⟩ : ∃ p, p = bestT ds := ⟨_, rfl⟩
          rw [← hp] at hT ⊢
          clear hp
          obtain ⟨x, y, z⟩ := p
          obtain ⟨t1, t2, t3⟩ := hT
          simp only at t1 t2 t3 ⊢
          have hwd := HOK.out.wide (show x < z by omega) t3
          have hwd2 := HOK.out.asc x z (by omega) t3
          have hbd := HOK.out.bend (i := x) (j := y) (k := z) (by omega) (by omega) t3
          have hax := HOK.out.inX x (by omega)
          have hcx := HOK.out.inX z t3
          unfold inD at hax hcx
          rw [trendV_parts]
          have hlow := low_cross (n := ((bendH (dX ds x) (dY ds x) (dX ds y) (dY ds y) (dX ds z) (dY ds z)).natAbs : Int)) (d := 2 * (dX ds z - dX ds x)) (by unfold bH at hbd; omega) (by omega)
          have eN : tEN (dX ds x) (dY ds x) (dX ds y) (dY ds y) (dX ds z) (dY ds z) = lN ((bendH (dX ds x) (dY ds x) (dX ds y) (dY ds y) (dX ds z) (dY ds z)).natAbs : Int) (2 * (dX ds z - dX ds x)) := rfl
          have eD : tED (dX ds x) (dY ds x) (dX ds y) (dY ds y) (dX ds z) (dY ds z) = lD ((bendH (dX ds x) (dY ds x) (dX ds y) (dY ds y) (dX ds z) (dY ds z)).natAbs : Int) (2 * (dX ds z - dX ds x)) := rfl
          rw [← eN, ← eD] at hlow
          have HBL := hide (fun W => bend_le (s := s) (k := k) (W := W) (HOK.out.asc x y t1 (by omega)) (HOK.out.asc y z t2 t3) (ay := dY ds x) (by' := dY ds y) (cy := dY ds z))
          clear eN eD
          obtain ⟨num, hnum⟩ : ∃ v, v = tEN (dX ds x) (dY ds x) (dX ds y) (dY ds y) (dX ds z) (dY ds z) := ⟨_, rfl⟩
          obtain ⟨den, hden⟩ : ∃ v, v = tED (dX ds x) (dY ds x) (dX ds y) (dY ds y) (dX ds z) (dY ds z) := ⟨_, rfl⟩
          obtain ⟨v1, hv1⟩ : ∃ v, v = tSN (dX ds x) (dY ds x) (dX ds y) (dY ds y) (dX ds z) (dY ds z) := ⟨_, rfl⟩
          obtain ⟨v2, hv2⟩ : ∃ v, v = tSD (dX ds x) (dY ds x) (dX ds y) (dY ds y) (dX ds z) (dY ds z) := ⟨_, rfl⟩
          obtain ⟨v3, hv3⟩ : ∃ v, v = tPN (dX ds x) (dY ds x) (dX ds z) (dY ds z) := ⟨_, rfl⟩
          obtain ⟨v4, hv4⟩ : ∃ v, v = tPD (dX ds x) (dY ds x) (dX ds z) (dY ds z) := ⟨_, rfl⟩
          rw [← hnum, ← hden, ← hv1, ← hv2, ← hv3, ← hv4]
          rw [← hnum, ← hden] at hlow
          clear hnum hden hv1 hv2 hv3 hv4
          unfold bH at hbd
          obtain ⟨q1, q2, q3, q4, q5, _⟩ := hlow
          have HQ5 := hide q5
          have hbD : inR den 1 40000 = true := inR_yes (by omega)
          have hbN : inR num 0 1000000000 = true := inR_yes (by omega)
          clear q5
          go_wp2_with fail
          refine Lv.same (within3_any den 1 40000 _) ?_
          rw [hbD]
          go_wp2_with fail
          refine Lv.same (within3_any num 0 1000000000 _) ?_
          rw [hbN]
          have L5 : Hid (Lv w _ [(w4.heap.size, 27, [.int .i64 v1, .int .i64 v2, .int .i64 v3, .int .i64 v4, .int .i64 num, .int .i64 den, .int .i64 x, .int .i64 y, .int .i64 z])]) := hide (L4.out.put _ _)
          go_wp2
          clear L3 L4 HOK0
          go_loopw [9, 10] (fun wv i wr => ∃ (W : Int) (j : Nat), wv = .int .i64 W ∧ i = .int .i64 j ∧ j ≤ n ∧ 0 ≤ W ∧ W ≤ 300000000 ∧ Hid (∀ t, t < j → -W ≤ offD ds s k t ∧ offD ds s k t ≤ W) ∧ Hid (Lv w wr [(w4.heap.size, 27, [.int .i64 v1, .int .i64 v2, .int .i64 v3, .int .i64 v4, .int .i64 num, .int .i64 den, .int .i64 x, .int .i64 y, .int .i64 z])])) (fun _ i _ => n - (intOf i).toNat)
          case atStart => exact ⟨0, 0, rfl, rfl, by omega, by omega, by omega, hide (fun t ht => absurd ht (by omega)), L5⟩
          case round =>
            obtain ⟨W, j, rfl, rfl, hj, hW0, hW1, HW, L1⟩ := hrel
            clear L5
            by_cases hlt : j < n
            · obtain ⟨g1, g2⟩ := HC.out j (by rw [HN.out]; exact hlt)
              have qx := (L1.out.below.cell (by exact hb)).trans g1
              have qy := (L1.out.below.cell (by exact hb)).trans g2
              have bx := HOK.out.inX j (by rw [HN.out]; exact hlt)
              have by1 := HOK.out.inY j (by rw [HN.out]; exact hlt)
              have HO : Hid (offD ds s k j = dY ds j - s - k * dX ds j) := rfl
              unfold dX at bx HO
              unfold dY at by1 HO
              obtain ⟨x', hx'⟩ : ∃ v, v = (ds.getD j (0, 0)).1 := ⟨_, rfl⟩
              obtain ⟨y', hy'⟩ : ∃ v, v = (ds.getD j (0, 0)).2 := ⟨_, rfl⟩
              rw [← hx'] at qx bx HO
              rw [← hy'] at qy by1 HO
              unfold inD at bx by1
              have hkx := mul_bound (x := k) (y := x') 20000 10000 (by omega) (by omega)
              rw [show (20000 * 10000 : Nat) = 200000000 from rfl] at hkx
              have W1 : IntKind.i64.wrap (k * x') = k * x' := by rw [IntKind.wrap_i64]; omega
              have W2 : IntKind.i64.wrap (y' - s) = y' - s := by rw [IntKind.wrap_i64]; omega
              obtain ⟨e, he⟩ : ∃ e, e = y' - s - k * x' := ⟨_, rfl⟩
              rw [← he] at HO
              have hea : -300000000 ≤ e ∧ e ≤ 300000000 := by omega
              have HB := hide (fun V => abs_any e V (by omega) (by omega))
              have W3 : IntKind.i64.wrap e = e := by rw [IntKind.wrap_i64]; omega
              have HE := hide he
              clear g1 g2 hx' hy'
              have hz5 : b < wr.heap.size := by have := L1.out.size; omega
              have WE : y' - s - k * x' = e := HE.out.symm
              clear he
              by_cases hWe : W < (e.natAbs : Int)
              · have HW2 : Hid (∀ t, t < j + 1 → -(e.natAbs : Int) ≤ offD ds s k t ∧ offD ds s k t ≤ (e.natAbs : Int)) := hide (fun t ht => by
                  rcases Nat.lt_or_ge t j with h | h
                  · have := HW.out t h; omega
                  · obtain rfl : t = j := by omega
                    rw [HO.out]; omega)
                have hba : (e.natAbs : Int) ≤ 300000000 := by omega
                obtain ⟨a, ha⟩ : ∃ a : Int, a = (e.natAbs : Int) := ⟨_, rfl⟩
                rw [← ha] at HW2 hba hWe HB
                have ha0 : 0 ≤ a := by omega
                clear ha hea HE
                go_wp2
                go_quiet ((go_at_call 15; first | exact still_call (HB.out _) | exact quiet_plain (HB.out _)))
                go_wp2
                go_roundw
                case rel => exact ⟨a, j + 1, rfl, by go_num, by omega, ha0, hba, HW2, hide (L1.out.drewN _)⟩
                case measure => simp [intOf]; omega
              · have HW2 : Hid (∀ t, t < j + 1 → -W ≤ offD ds s k t ∧ offD ds s k t ≤ W) := hide (fun t ht => by
                  rcases Nat.lt_or_ge t j with h | h
                  · exact HW.out t h
                  · obtain rfl : t = j := by omega
                    rw [HO.out]; omega)
                obtain ⟨a, ha⟩ : ∃ a : Int, a = (e.natAbs : Int) := ⟨_, rfl⟩
                rw [← ha] at hWe HB
                clear ha hea HE
                go_wp2
                go_quiet ((go_at_call 15; first | exact still_call (HB.out _) | exact quiet_plain (HB.out _)))
                go_wp2
                go_roundw
                case rel => exact ⟨W, j + 1, rfl, by go_num, by omega, hW0, hW1, HW2, hide (L1.out.drewN _)⟩
                case measure => simp [intOf]; omega
            · obtain rfl : j = n := by omega
              have F1 := L1.out.at
              simp only [AllAt, CellsAt, updL, List.map, Nat.zero_add, Nat.reduceAdd, and_true, World.size_alloc, World.heap_drewN, heap_drew, size_set, Nat.add_eq_left, Nat.left_eq_add, Nat.add_right_cancel_iff, Nat.reduceEqDiff, Nat.one_ne_zero, Nat.succ_ne_zero, Nat.zero_ne_one, reduceIte, List.set_cons_zero, List.set_cons_succ] at F1
              have hfin : num ≤ W * den := by
                have hl := HN.out
                have b1 := HBL.out W (by have := HW.out x (by omega); exact this) (by have := HW.out y (by omega); exact this) (by have := HW.out z (by omega); exact this)
                exact cross_le (by omega) (by omega) HQ5.out b1
              have hpr := mul_bound (x := W) (y := den) 300000000 40000 (by omega) (by omega)
              rw [show (300000000 * 40000 : Nat) = 12000000000000 from rfl] at hpr
              clear HBL
              go_wp2
              go_ret
              refine ⟨rfl, ?_⟩
              repeat (first | (with_reducible exact L1.out.below) | refine Below.setCell ?_ (by first | omega | (simp; done) | (simp; omega)) _ | refine Below.alloc ?_ (by first | omega | (simp; done) | (simp; omega)) _ | refine below_drewN ?_ _ | refine Below.drew ?_)
        · have hbk : inR k (-20000) 20000 = false := inR_no hk
          clear hk
          go_wp2_with fail
          refine Lv.same (within3_any s (-20000) 20000 _) ?_
          rw [hbs]
          go_wp2_with fail
          refine Lv.same (within3_any k (-20000) 20000 _) ?_
          rw [hbk]
          go_wp2
          go_ret
          refine ⟨rfl, ?_⟩
          repeat (first | (with_reducible exact L3.out.below) | refine Below.setCell ?_ (by first | omega | (simp; done) | (simp; omega)) _ | refine Below.alloc ?_ (by first | omega | (simp; done) | (simp; omega)) _ | refine below_drewN ?_ _ | refine Below.drew ?_)
      · have hbs : inR s (-20000) 20000 = false := inR_no hs
        clear hs
        go_wp2_with fail
        refine Lv.same (within3_any s (-20000) 20000 _) ?_
        rw [hbs]
        go_wp2
        go_ret
        refine ⟨rfl, ?_⟩
        repeat (first | (with_reducible exact L3.out.below) | refine Below.setCell ?_ (by first | omega | (simp; done) | (simp; omega)) _ | refine Below.alloc ?_ (by first | omega | (simp; done) | (simp; omega)) _ | refine below_drewN ?_ _ | refine Below.drew ?_)
    · have hb1 : (dotsErr ds == 0) = false := by rw [beq_eq_false_iff_ne]; exact hok
      have hb2 : (dotsErr ds != 0) = true := by rw [bne_iff_ne]; exact hok
      clear hok D2 D3
      go_wp2
      go_ret
      refine ⟨rfl, ?_⟩
      repeat (first | (with_reducible exact L3.out.below) | refine Below.setCell ?_ (by first | omega | (simp; done) | (simp; omega)) _ | refine Below.alloc ?_ (by first | omega | (simp; done) | (simp; omega)) _ | refine below_drewN ?_ _ | refine Below.drew ?_)
  · have hn12' : (12 : Int) < (n : Int) := by omega
    go_enter Try.func4, Try.ntmps4
    go_wp2_with fail
    refine Lv.call (awake_any _) L0.out ?_
    intro w2 L2'
    have L2 := hide L2'
    have F2 := L2'.at
    clear L2'
    simp only [AllAt, CellsAt, updL, List.map, Nat.zero_add, Nat.reduceAdd, and_true, World.size_alloc, World.heap_drewN, heap_drew, size_set, Nat.add_eq_left, Nat.left_eq_add, Nat.add_right_cancel_iff, Nat.reduceEqDiff, Nat.one_ne_zero, Nat.succ_ne_zero, Nat.zero_ne_one, reduceIte, List.set_cons_zero, List.set_cons_succ] at F2
    go_wp2
    go_ret
    refine ⟨rfl, ?_⟩
    repeat (first | (with_reducible exact L2.out.below) | refine Below.setCell ?_ (by first | omega | (simp; done) | (simp; omega)) _ | refine Below.alloc ?_ (by first | omega | (simp; done) | (simp; omega)) _ | refine below_drewN ?_ _ | refine Below.drew ?_)
set_option maxRecDepth 100000 in
theorem numberBest_lifted (os : Os) (started : os.Started) (H : Type) (enc : TypeId × Value → H) :
    ReturnsInHanded {} Try.checked os 4 .any (Rows.numberBestSpec.pre6 enc Try.prog Try.f4 Rows.numberBestRow.domain false) (Rows.numberBestSpec.post enc Try.prog Try.f4 false true false false) := by
  refine returnsInHanded_of_change (C := Try.checked) (by kernel_rfl) started (by kernel_rfl) Try.func4
    (ChangeSpec.witness6 (enc := enc) (C := Try.checked) false ⟨#[], #[.slice none 0 0, .int .i64 0, .int .i64 0], []⟩ 8 (by kernel_rfl) (by kernel_rfl) (by kernel_rfl) (by kernel_rfl)) ?_
  intro W base args ds gs before hval0 hW hcnd _
  have hval : ∀ (j : Nat) t v, Try.f4.params[j]? = some t → args[j]? = some v → Value.okWide Try.prog W .any base t v := hval0
  have hW' := hW
  obtain ⟨p, q, hA0, hV, rfl, hfz, hnd⟩ := hW
  have hA : DataW.TrodAll enc Try.prog W 0 (fun _ => true) true Try.f4.params.toList args.toList ds p := hA0
  rw [Try.params4] at hA hval
  obtain ⟨v0, vs0, d0, ds0, p0, q0, hargs, rfl, rfl, h0, r0⟩ := trodAll_cons hA
  obtain ⟨v1, vs1, d1, ds1, p1, q1, rfl, rfl, rfl, h1, r1⟩ := trodAll_cons r0
  obtain ⟨v2, vs2, d2, ds2, p2, q2, rfl, rfl, rfl, h2, r2⟩ := trodAll_cons r1
  obtain ⟨rfl, rfl, rfl⟩ := trodAll_nil r2
  obtain rfl : args = #[v0, v1, v2] := by cases args; simp_all
  obtain ⟨rfl, rfl⟩ := trodVars_none hV
  obtain ⟨A0_l, n0_l, c0_l, rfl⟩ := okWide_slice Try.underlying22 (hval 0 22 v0 rfl rfl)
  obtain ⟨fu_l, hf_l⟩ := h0
  obtain ⟨A_l, n_l, c_l, hcs_l, hrow_l⟩ := open_rows Try.underlying22 Try.underlying41 (by kernel_rfl) (by kernel_rfl) (by decide) (fun k f hk => by match k, hk with | 0, hk => cases hk; exact Try.underlying3 | 1, hk => cases hk; exact Try.underlying3 | k + 2, hk => simp at hk) hf_l
  simp [Value.cells] at hcs_l
  obtain ⟨rfl, rfl, rfl⟩ := hcs_l
  obtain ⟨ds_l, hn_l, hd_l⟩ : ∃ ds, ds.length = n0_l ∧ Dots W W.heap.size A0_l ds := by
    rcases hrow_l with h0 | ⟨b, off, z, rfl, hb, hz⟩
    · exact ⟨[], h0.symm, fun h => by simp at h⟩
    · refine ⟨(List.range n0_l).map fun i => (z i 0, z i 1), by simp, fun _ => ⟨b, off, rfl, hb, fun i hi => ?_⟩⟩
      have hi' : i < n0_l := by simpa using hi
      have e : ((List.range n0_l).map fun i => (z i 0, z i 1)).getD i (0, 0) = (z i 0, z i 1) := by simp [hi']
      rw [e]
      exact ⟨by simpa using (hz i hi' 0 (by decide)).1, by simpa using (hz i hi' 1 (by decide)).1⟩
  obtain ⟨s, rfl, rfl, rfl, w_s⟩ := open_int Try.underlying3 (hval 1 3 v1 rfl rfl) h1
  obtain ⟨k, rfl, rfl, rfl, w_k⟩ := open_int Try.underlying3 (hval 2 3 v2 rfl rfl) h2
  clear hval0
  have hWW := hW'
  refine (numberBest_walk A0_l n0_l c0_l ds_l s k W (wfI w_s) (wfI w_k) hn_l hd_l).mono fun e W' ⟨he, hb⟩ => ?_
  subst he
  exact ⟨_, rfl, law_post (pa := p0 ++ ([] ++ ([] ++ []))) (pv := []) hWW (fun _ _ _ => (trodAll_cons_mk (shut_bool Try.underlying4 _) trodAll_mk0)) (fun sp hsp => args_back (by kernel_rfl) _ _ _ _ (by kernel_rfl) hA0 (fun x hx => hb.same (hWW.lt x (List.mem_append_left _ hx))) (fun x hx => hsp x (List.mem_append_left _ hx))) (fun _ _ => rfl) rfl hb⟩

theorem numberBest_holds : Rows.NumberBestSaid :=
  OpenClaim.holds_of_wide 4 Try.f4 rfl rfl rfl rfl rfl rfl rfl ⟨rfl, rfl, rfl, rfl, rfl⟩ rfl rfl rfl rfl rfl (by kernel_rfl) Try.func4 (by kernel_rfl)
    (of_decide_eq_true (by kernel_rfl)) (by unfold Func.isWrapper; first | (rw [if_pos (by decide +kernel)]; kernel_rfl) | (rw [if_neg (by decide +kernel)]; exact ⟨rfl, rfl⟩))
    (fun os started H enc _ => numberBest_lifted os started H enc)
end Go.Proofs.Ytfmonpjoadjimac
