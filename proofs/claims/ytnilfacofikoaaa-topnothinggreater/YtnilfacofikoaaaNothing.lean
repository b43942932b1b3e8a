/- PROVED HERE: Rows.TopNothingGreaterSaid: agraffetop.TopNothingGreater returns true for every input, and its arguments read behind the call as before. -/
import Derived.Test.YtnilfacofikoaaaOpenInts
import Derived.Test.YtnilfacofikoaaaCounts
import Derived.Test.YtnilfacofikoaaaSysM
namespace Go.Proofs.Ytnilfacofikoaaa
open Go.ChangeShapes Go.WideShapes Go.ChangeAt Go.RowKit Go.Joins
set_option linter.unusedVariables false
set_option linter.unusedSimpArgs false

/-- Numbers that keep all bounds. -/
def KeepsB (bs : List (Int × Int × Int)) (xs : List Int) : Prop := ∀ i, i < bs.length → xs.getD (bTo bs i) 0 ≤ xs.getD (bFr bs i) 0 + bMo bs i
def cTo (bs : List (Int × Int × Int)) (cs : List Int) (i : Nat) : Nat := bTo bs (cs.getD i 0).toNat
theorem no_circle {n : Nat} {bs : List (Int × Int × Int)} {xs cs : List Int} (hok : BndsOk n bs) (hk : KeepsB bs xs) : cirErr bs cs ≠ 0 := by
  intro h
  have hlen : ¬ (cs.length < 1 ∨ 60 < cs.length) := fun hh => by rw [cir_len hh] at h; omega
  have hI : cirIn bs cs := by
    by_cases hI : cirIn bs cs
    · exact hI
    · unfold cirErr at h
      rw [if_neg hlen, if_pos hI] at h
      omega
  have hL : cirLk bs cs := by
    by_cases hL : cirLk bs cs
    · exact hL
    · unfold cirErr at h
      rw [if_neg hlen, if_neg (fun x => x hI), if_pos hL] at h
      omega
  rw [cir_end hlen hI hL] at h
  have key : ∀ k, k ≤ cs.length → xs.getD (cTo bs cs (cPrev cs k)) 0 - xs.getD (cTo bs cs (cs.length - 1)) 0 ≤ cirSum bs cs k := by
    intro k
    induction k with
    | zero => intro _; unfold cPrev; rw [if_pos rfl]; simp [cirSum]
    | succ k ih =>
      intro hk1
      have h1 := ih (by omega)
      have hin := hI k (by omega)
      have hlk := hL k (by omega)
      have hp : cPrev cs k < cs.length := by unfold cPrev; split <;> omega
      have hinp := hI (cPrev cs k) hp
      have h2 := hk (cs.getD k 0).toNat (by omega)
      have e1 : cPrev cs (k + 1) = k := by unfold cPrev; rw [if_neg (by omega)]; omega
      have e2 : bMo bs (cs.getD k 0).toNat = (cAt bs cs k).2.2 := rfl
      have e3 : bFr bs (cs.getD k 0).toNat = cTo bs cs (cPrev cs k) := by
        show (cAt bs cs k).1.toNat = (cAt bs cs (cPrev cs k)).2.1.toNat
        rw [hlk]
      rw [e1, cirSum]
      rw [e2, e3] at h2
      have e4 : cTo bs cs k = bTo bs (cs.getD k 0).toNat := rfl
      rw [e4]
      omega
  have h1 := key cs.length (Nat.le_refl _)
  have e : cPrev cs cs.length = cs.length - 1 := by unfold cPrev; rw [if_neg (by omega)]
  rw [e] at h1
  split at h <;> omega
theorem lowTo_ge {bs : List (Int × Int × Int)} {vs ls xs : List Int} (hk : KeepsB bs xs) (hl : xs.length = vs.length) (h : ∀ v, xs.getD v 0 ≤ vs.getD v 0) : ∀ k, k ≤ bs.length → ∀ v, xs.getD v 0 ≤ (lowTo bs vs ls k).vs.getD v 0
  | 0, _ => h
  | k + 1, hk1 => by
    intro v
    have ih := lowTo_ge (ls := ls) hk hl h k (by omega)
    have h1 := hk k (by omega)
    rw [lowTo]
    unfold lowStep
    split
    · simp only
      by_cases hb : bTo bs k < (lowTo bs vs ls k).vs.length
      · rw [getD_set_if hb]
        split
        · rename_i e
          subst e
          have := ih (bFr bs k)
          omega
        · exact ih v
      · rw [List.set_eq_of_length_le (by omega)]
        exact ih v
    · exact ih v
theorem solveSt_ge {bs : List (Int × Int × Int)} {n : Nat} {xs : List Int} (hk : KeepsB bs xs) (hl : xs.length = n) (h0 : ∀ v, xs.getD v 0 ≤ 0) : ∀ q v, xs.getD v 0 ≤ (solveSt bs n q).vs.getD v 0
  | 0, v => by
    have e : (solveSt bs n 0).vs.getD v 0 = 0 := by
      show (zerosL n).getD v 0 = 0
      unfold zerosL
      rw [List.getD_eq_getElem?_getD, List.getElem?_replicate]
      split <;> rfl
    rw [e]
    exact h0 v
  | q + 1, v => lowTo_ge hk (by rw [(solveSt_len q).1]; exact hl) (solveSt_ge hk hl h0 q) _ (Nat.le_refl _) v
theorem int_lt {a b : Nat} (h : a < b) : (a : Int) < (b : Int) := by omega
set_option maxHeartbeats 4000000 in
set_option maxRecDepth 100000 in
theorem topNothingGreater_walk (A : Option Addr) (len cap : Nat) (bs : List (Int × Int × Int)) (X : Option Addr) (n xc : Nat) (xs : List Int) (C : Option Addr) (m mc : Nat) (cs : List Int) (w : World) (hn : bs.length = len) (hD : Bnds w w.heap.size A bs)
    (hxn : xs.length = n) (hxb : ∀ z ∈ xs, -9223372036854775808 ≤ z ∧ z ≤ 9223372036854775807) (hX : RdB w w.heap.size X xs) (hcm : cs.length = m) (hcb : ∀ z ∈ cs, -9223372036854775808 ≤ z ∧ z ≤ 9223372036854775807) (hC : RdB w w.heap.size C cs) :
    Calls Try.prog 7 #[.slice A len cap, .slice X n xc, .slice C m mc] w fun x w' => x = .returned (.bool true) ∧ Below w.heap.size w w' := by
  have HN := hide hn
  have HD := hide hD
  have HXN := hide hxn
  have HX := hide hX
  have HCM := hide hcm
  have HC := hide hC
  clear hn hD hxn hxb hX hcm hcb hC
  by_cases hg1 : (30 : Int) < (len : Int)
  · have L0 := hide (Lv.start w)
    go_enter Try.func7, Try.ntmps7
    go_wp2_with fail
    refine Lv.call (counts_any _) L0.out ?_
    intro w2 L2'
    have L2 := hide L2'
    have F2 := L2'.at
    clear L2'
    simp only [AllAt, CellsAt, updL, List.map, Nat.zero_add, Nat.reduceAdd, and_true, World.size_alloc, World.heap_drewN, heap_drew, size_set, Nat.add_eq_left, Nat.left_eq_add, Nat.add_right_cancel_iff, ne_up2, ne_dn2, ne_up3, ne_dn3, ne_up4, ne_dn4, Nat.reduceEqDiff, Nat.one_ne_zero, Nat.succ_ne_zero, Nat.zero_ne_one, reduceIte, List.set_cons_zero, List.set_cons_succ] at F2
    go_wp2
    go_ret
    refine ⟨rfl, ?_⟩
    repeat (first | (with_reducible exact L2.out.below) | refine Below.setCell ?_ (by first | omega | (simp; done) | (simp; omega)) _ | refine Below.alloc ?_ (by first | omega | (simp; done) | (simp; omega)) _ | refine below_drewN ?_ _ | refine Below.drew ?_)
  · by_cases hg2 : (60 : Int) < (m : Int)
    · have L0 := hide (Lv.start w)
      go_enter Try.func7, Try.ntmps7
      go_wp2_with fail
      refine Lv.call (counts_any _) L0.out ?_
      intro w2 L2'
      have L2 := hide L2'
      have F2 := L2'.at
      clear L2'
      simp only [AllAt, CellsAt, updL, List.map, Nat.zero_add, Nat.reduceAdd, and_true, World.size_alloc, World.heap_drewN, heap_drew, size_set, Nat.add_eq_left, Nat.left_eq_add, Nat.add_right_cancel_iff, ne_up2, ne_dn2, ne_up3, ne_dn3, ne_up4, ne_dn4, Nat.reduceEqDiff, Nat.one_ne_zero, Nat.succ_ne_zero, Nat.zero_ne_one, reduceIte, List.set_cons_zero, List.set_cons_succ] at F2
      go_wp2
      go_ret
      refine ⟨rfl, ?_⟩
      repeat (first | (with_reducible exact L2.out.below) | refine Below.setCell ?_ (by first | omega | (simp; done) | (simp; omega)) _ | refine Below.alloc ?_ (by first | omega | (simp; done) | (simp; omega)) _ | refine below_drewN ?_ _ | refine Below.drew ?_)
    · obtain ⟨E, hE⟩ : ∃ E, sysErr n bs = E := ⟨_, rfl⟩
      have HS := hide hE
      clear hE
      by_cases hE0 : E = 0
      · subst hE0
        obtain ⟨hN, _, hok⟩ := sys_ok HS.out
        have HOK := hide hok
        clear hok
        have L0 := hide (Lv.start w)
        go_enter Try.func7, Try.ntmps7
        go_wp2_with fail
        refine Lv.call (counts_any _) L0.out ?_
        intro w2 L2'
        have L2 := hide L2'
        have F2 := L2'.at
        clear L2'
        simp only [AllAt, CellsAt, updL, List.map, Nat.zero_add, Nat.reduceAdd, and_true, World.size_alloc, World.heap_drewN, heap_drew, size_set, Nat.add_eq_left, Nat.left_eq_add, Nat.add_right_cancel_iff, ne_up2, ne_dn2, ne_up3, ne_dn3, ne_up4, ne_dn4, Nat.reduceEqDiff, Nat.one_ne_zero, Nat.succ_ne_zero, Nat.zero_ne_one, reduceIte, List.set_cons_zero, List.set_cons_succ] at F2
        have D2 : Hid (Bnds w2 w2.heap.size A bs) := (HD.out.kept L2.out.below).mono L2.out.size
        go_wp2_with fail
        refine (refCheckSystem_any n A len cap bs _ HN.out D2.out).mono ?_
        rintro e w3 ⟨rfl, q3, rfl⟩
        have L3 := hide (L2.out.drewN q3)
        clear D2 F2 L2
        rw [HS.out]
        obtain ⟨bx, ox, rfl, hbx, hcx⟩ := HX.out (by rw [HXN.out]; omega)
        have HCX := hide hcx
        have hz3 := L3.out.size
        have hbx3 : bx < (w2.drewN q3).heap.size := by omega
        clear hcx HX
        go_wp2
        go_loop [8] (fun i => ∃ k : Nat, k ≤ n ∧ i = .int .i64 k ∧ Hid (∀ j, j < k → -1000000000 ≤ xs.getD j 0 ∧ xs.getD j 0 ≤ 0)) (fun i => n - (intOf i).toNat)
        case atStart => exact ⟨0, by omega, rfl, hide (fun j hj => by omega)⟩
        case round =>
          obtain ⟨k, hk, rfl, HK⟩ := hrel
          by_cases hlt : k < n
          · have q0 := (L3.out.below.cell (by exact hbx)).trans (HCX.out k (by rw [HXN.out]; exact hlt))
            have hlt' := int_lt hlt
            obtain ⟨x, hx⟩ : ∃ x, x = xs.getD k 0 := ⟨_, rfl⟩
            rw [← hx] at q0
            have HXX := hide hx
            clear hx
            by_cases hx0 : -1000000000 ≤ x ∧ x ≤ 0
            · have HI := hide (inR_yes hx0)
              have HK2 : Hid (∀ j, j < k + 1 → -1000000000 ≤ xs.getD j 0 ∧ xs.getD j 0 ≤ 0) := hide (fun j hj => by
                rcases Nat.lt_or_ge j k with h | h
                · exact HK.out j h
                · obtain rfl : k = j := by omega
                  rw [← HXX.out]; exact hx0)
              clear hx0
              go_wp2_with fail
              refine Lv.same (within3_any x (-1000000000) 0 _) ?_
              rw [HI.out]
              go_wp2
              go_round
              case rel => exact ⟨k + 1, by omega, by go_num, HK2⟩
              case measure => simp [intOf]; omega
            · have HI := hide (inR_no hx0)
              clear hx0
              go_wp2_with fail
              refine Lv.same (within3_any x (-1000000000) 0 _) ?_
              rw [HI.out]
              go_wp2
              go_ret
              refine ⟨rfl, ?_⟩
              repeat (first | (with_reducible exact L3.out.below) | refine Below.setCell ?_ (by first | omega | (simp; done) | (simp; omega)) _ | refine Below.alloc ?_ (by first | omega | (simp; done) | (simp; omega)) _ | refine below_drewN ?_ _ | refine Below.drew ?_)
          · obtain rfl : n = k := by omega
            have HXB := hide HK.out
            clear HK hlt
            go_wp2
            go_loopw [9] (fun i wr => ∃ k : Nat, k ≤ len ∧ i = .int .i64 k ∧ Hid (∀ j, j < k → xs.getD (bTo bs j) 0 ≤ xs.getD (bFr bs j) 0 + bMo bs j) ∧ Hid (Below w.heap.size w wr)) (fun i _ => len - (intOf i).toNat)
            case atStart => exact ⟨0, by omega, rfl, hide (fun j hj => by omega), hide L3.out.below⟩
            case round =>
              obtain ⟨k, hk, rfl, HK, HB⟩ := hrel
              clear L3
              by_cases hlt : k < len
              · obtain ⟨b, off, rfl, hb, hc⟩ := HD.out (by rw [HN.out]; omega)
                obtain ⟨y1, y2, y3⟩ := hc k (by rw [HN.out]; exact hlt)
                have hlt' := int_lt hlt
                have qx := (HB.out.cell (by exact hb)).trans y1
                have qy := (HB.out.cell (by exact hb)).trans y2
                have qz := (HB.out.cell (by exact hb)).trans y3
                obtain ⟨⟨x0, x1⟩, ⟨z0, z1⟩, ⟨m0, m1⟩⟩ := HOK.out k (by rw [HN.out]; exact hlt)
                obtain ⟨x, hxe⟩ := Int.eq_ofNat_of_zero_le x0
                obtain ⟨y, hye⟩ := Int.eq_ofNat_of_zero_le z0
                obtain ⟨z, hze⟩ : ∃ z, z = (bs.getD k (0, 0, 0)).2.2 := ⟨_, rfl⟩
                have HFX : Hid (bFr bs k = x) := by show bFr bs k = x; unfold bFr; rw [hxe]; rfl
                have HFY : Hid (bTo bs k = y) := by show bTo bs k = y; unfold bTo; rw [hye]; rfl
                have HFZ : Hid (bMo bs k = z) := by show bMo bs k = z; unfold bMo; rw [hze]
                rw [hxe] at qx x1
                rw [hye] at qy z1
                rw [← hze] at qz m0 m1
                have hxn : x < n := by omega
                have hyn : y < n := by omega
                have cx := (HB.out.cell (by exact hbx)).trans (HCX.out x (by rw [HXN.out]; exact hxn))
                have cy := (HB.out.cell (by exact hbx)).trans (HCX.out y (by rw [HXN.out]; exact hyn))
                have bx' := HXB.out x hxn
                have by' := HXB.out y hyn
                obtain ⟨vx, hvx⟩ : ∃ v, v = xs.getD x 0 := ⟨_, rfl⟩
                obtain ⟨vy, hvy⟩ : ∃ v, v = xs.getD y 0 := ⟨_, rfl⟩
                rw [← hvx] at cx bx'
                rw [← hvy] at cy by'
                have HVX := hide hvx
                have HVY := hide hvy
                have hsz := HB.out.size
                have hbr : b < wr.heap.size := by omega
                have hbxr : bx < wr.heap.size := by omega
                have hxn' := int_lt hxn
                have hyn' := int_lt hyn
                have W1 : IntKind.i64.wrap (vy - vx) = vy - vx := by rw [IntKind.wrap_i64]; omega
                clear y1 y2 y3 hxe hye hze hvx hvy hc
                by_cases hlow : z < vy - vx
                · go_wp2
                  go_quiet (fail)
                  go_wp2
                  go_ret
                  exact ⟨rfl, below_drewN HB.out _⟩
                · have HK2 : Hid (∀ j, j < k + 1 → xs.getD (bTo bs j) 0 ≤ xs.getD (bFr bs j) 0 + bMo bs j) := hide (fun j hj => by
                    rcases Nat.lt_or_ge j k with h | h
                    · exact HK.out j h
                    · obtain rfl : k = j := by omega
                      rw [HFX.out, HFY.out, HFZ.out, ← HVX.out, ← HVY.out]; omega)
                  go_wp2
                  go_quiet (fail)
                  go_wp2
                  go_roundw
                  case rel => exact ⟨k + 1, by omega, by go_num, HK2, hide (below_drewN HB.out _)⟩
                  case measure => simp [intOf]; omega
              · obtain rfl : len = k := by omega
                have HKP : Hid (KeepsB bs xs) := hide (fun j hj => HK.out j (by rw [← HN.out]; exact hj))
                obtain ⟨r, hr, hup, hlow⟩ : ∃ r, r < n ∧ (∀ q, q < r → 0 ≤ (solveSt bs n (q + 1)).low) ∧ (solveSt bs n (r + 1)).low < 0 := by
                  rcases sys_ways hN.1 HOK.out with h | ⟨_, v, c, hC⟩
                  · exact h
                  · exact absurd HKP.out (fun h => low_again hC.circ h)
                have S1 := hide (fun W hW => solve_ok n A len cap r bs W HN.out hW HS.out hr hup hlow)
                have HSL := hide ((solveSt_len (bs := bs) (n := n) (r + 1)).1)
                have HGE := hide (solveSt_ge HKP.out HXN.out (fun v => by
                  by_cases hv : v < n
                  · exact (HXB.out v hv).2
                  · simp [List.getD_eq_getElem?_getD, List.getElem?_eq_none (show xs.length ≤ v by rw [HXN.out]; omega)]) (r + 1))
                have HNC := hide (no_circle (cs := cs) HOK.out HKP.out)
                clear hr hup hlow HK
                have L4 := hide (⟨HB.out, fun x hx => by cases hx⟩ : Lv w wr [])
                have D4 : Hid (Bnds wr wr.heap.size A bs) := (HD.out.kept HB.out).mono HB.out.size
                clear HB
                go_wp2_with fail
                refine (S1.out _ D4.out).mono ?_
                rintro e w5 ⟨g5, rfl, ho5, hb5⟩
                have L5 := hide (L4.out.kept hb5)
                have D5 : Hid (Bnds w5 w5.heap.size A bs) := (HD.out.kept L5.out.below).mono L5.out.size
                have C5 : Hid (RdB w5 w5.heap.size C cs) := (HC.out.kept L5.out.below).mono L5.out.size
                have HO5 := hide ho5
                clear ho5 hb5 S1
                go_wp2_with fail
                refine (checkCircle_any n A C len cap m mc bs cs _ HN.out HCM.out D5.out C5.out HS.out).mono ?_
                rintro e w6 ⟨rfl, hb6⟩
                have L6 := hide (L5.out.kept hb6)
                have hne : ((cirErr bs cs : Int) == 0) = false := by rw [beq_eq_false_iff_ne]; exact HNC.out
                have lg := (HO5.out.lt g5 rfl).2
                have hz6 := hb6.size
                have HB6 := hide hb6
                clear hb6
                go_wp2
                go_loopw [15] (fun i wr => ∃ k q : Nat, k ≤ n ∧ i = .int .i64 k ∧ wr = w6.drewN q) (fun i _ => n - (intOf i).toNat)
                case atStart => exact ⟨0, 0, by omega, rfl, rfl⟩
                case round =>
                  obtain ⟨k, q, hk, rfl, rfl⟩ := hrel
                  by_cases hlt : k < n
                  · have cx := (L6.out.below.cell (by exact hbx)).trans (HCX.out k (by rw [HXN.out]; exact hlt))
                    have cy : w6.cell? ⟨g5, k, none⟩ = some (.int .i64 ((solveSt bs n (r + 1)).vs.getD k 0)) := by
                      rw [HB6.out.cell (p := ⟨g5, k, none⟩) (by exact lg), HO5.out.cellAt k (by omega), i64s_get (by rw [HSL.out]; exact hlt)]
                    have hge := HGE.out k
                    have hlt' := int_lt hlt
                    obtain ⟨x, hx⟩ : ∃ x, x = xs.getD k 0 := ⟨_, rfl⟩
                    obtain ⟨y, hy⟩ : ∃ x, x = (solveSt bs n (r + 1)).vs.getD k 0 := ⟨_, rfl⟩
                    rw [← hx] at cx hge
                    rw [← hy] at cy hge
                    clear hx hy
                    go_wp2
                    go_quiet (fail)
                    go_wp2
                    go_roundw
                    case rel => exact ⟨k + 1, _, by omega, by go_num, rfl⟩
                    case measure => simp [intOf]; omega
                  · obtain rfl : n = k := by omega
                    go_wp2
                    go_ret
                    exact ⟨rfl, below_drewN L6.out.below _⟩
      · have b1 : (E != 0) = true := by rw [bne_iff_ne]; exact hE0
        clear hE0
        have L0 := hide (Lv.start w)
        go_enter Try.func7, Try.ntmps7
        go_wp2_with fail
        refine Lv.call (counts_any _) L0.out ?_
        intro w2 L2'
        have L2 := hide L2'
        have F2 := L2'.at
        clear L2'
        simp only [AllAt, CellsAt, updL, List.map, Nat.zero_add, Nat.reduceAdd, and_true, World.size_alloc, World.heap_drewN, heap_drew, size_set, Nat.add_eq_left, Nat.left_eq_add, Nat.add_right_cancel_iff, ne_up2, ne_dn2, ne_up3, ne_dn3, ne_up4, ne_dn4, Nat.reduceEqDiff, Nat.one_ne_zero, Nat.succ_ne_zero, Nat.zero_ne_one, reduceIte, List.set_cons_zero, List.set_cons_succ] at F2
        have D2 : Hid (Bnds w2 w2.heap.size A bs) := (HD.out.kept L2.out.below).mono L2.out.size
        go_wp2_with fail
        refine (refCheckSystem_any n A len cap bs _ HN.out D2.out).mono ?_
        rintro e w3 ⟨rfl, q3, rfl⟩
        have L3 := hide (L2.out.drewN q3)
        clear D2 F2
        rw [HS.out]
        go_wp2
        go_ret
        refine ⟨rfl, ?_⟩
        repeat (first | (with_reducible exact L3.out.below) | refine Below.setCell ?_ (by first | omega | (simp; done) | (simp; omega)) _ | refine Below.alloc ?_ (by first | omega | (simp; done) | (simp; omega)) _ | refine below_drewN ?_ _ | refine Below.drew ?_)
set_option maxRecDepth 100000 in
theorem topNothingGreater_lifted (os : Os) (started : os.Started) (H : Type) (enc : TypeId × Value → H) :
    ReturnsInHanded {} Try.checked os 7 .any (Rows.topNothingGreaterSpec.pre6 enc Try.prog Try.f7 Rows.topNothingGreaterRow.domain false) (Rows.topNothingGreaterSpec.post enc Try.prog Try.f7 false true false false) := by
  refine returnsInHanded_of_change (C := Try.checked) (by kernel_rfl) started (by kernel_rfl) Try.func7
    (ChangeSpec.witness6 (enc := enc) (C := Try.checked) false ⟨#[], #[.slice none 0 0, .slice none 0 0, .slice none 0 0], []⟩ 8 (by kernel_rfl) (by kernel_rfl) (by kernel_rfl) (by kernel_rfl)) ?_
  intro W base args ds gs before hval0 hW hcnd _
  have hval : ∀ (j : Nat) t v, Try.f7.params[j]? = some t → args[j]? = some v → Value.okWide Try.prog W .any base t v := hval0
  have hW' := hW
  obtain ⟨p, q, hA0, hV, rfl, hfz, hnd⟩ := hW
  have hA : DataW.TrodAll enc Try.prog W 0 (fun _ => true) true Try.f7.params.toList args.toList ds p := hA0
  rw [Try.params7] at hA hval
  obtain ⟨v0, vs0, d0, ds0, p0, q0, hargs, rfl, rfl, h0, r0⟩ := trodAll_cons hA
  obtain ⟨v1, vs1, d1, ds1, p1, q1, rfl, rfl, rfl, h1, r1⟩ := trodAll_cons r0
  obtain ⟨v2, vs2, d2, ds2, p2, q2, rfl, rfl, rfl, h2, r2⟩ := trodAll_cons r1
  obtain ⟨rfl, rfl, rfl⟩ := trodAll_nil r2
  obtain rfl : args = #[v0, v1, v2] := by cases args; simp_all
  obtain ⟨rfl, rfl⟩ := trodVars_none hV
  obtain ⟨A0_l, n0_l, c0_l, rfl⟩ := okWide_slice Try.underlying37 (hval 0 37 v0 rfl rfl)
  obtain ⟨fu_l, hf_l⟩ := h0
  obtain ⟨A_l, n_l, c_l, hcs_l, hrow_l⟩ := open_rows Try.underlying37 Try.underlying67 (by kernel_rfl) (by kernel_rfl) (by decide) (fun k f hk => by match k, hk with | 0, hk => cases hk; exact Try.underlying3 | 1, hk => cases hk; exact Try.underlying3 | 2, hk => cases hk; exact Try.underlying3 | k + 3, hk => simp at hk) hf_l
  simp [Value.cells] at hcs_l
  obtain ⟨rfl, rfl, rfl⟩ := hcs_l
  obtain ⟨ds_l, hn_l, hd_l⟩ : ∃ ds, ds.length = n0_l ∧ Bnds W W.heap.size A0_l ds := by
    rcases hrow_l with h0 | ⟨b, off, z, rfl, hb, hz⟩
    · exact ⟨[], h0.symm, fun h => by simp at h⟩
    · refine ⟨(List.range n0_l).map fun i => (z i 0, z i 1, z i 2), by simp, fun _ => ⟨b, off, rfl, hb, fun i hi => ?_⟩⟩
      have hi' : i < n0_l := by simpa using hi
      have e : ((List.range n0_l).map fun i => (z i 0, z i 1, z i 2)).getD i (0, 0, 0) = (z i 0, z i 1, z i 2) := by simp [hi']
      rw [e]
      exact ⟨by simpa using (hz i hi' 0 (by decide)).1, by simpa using (hz i hi' 1 (by decide)).1, by simpa using (hz i hi' 2 (by decide)).1⟩
  obtain ⟨A0_x, n0_x, c0_x, rfl⟩ := okWide_slice Try.underlying39 (hval 1 39 v1 rfl rfl)
  obtain ⟨fu_x, hf_x⟩ := h1
  obtain ⟨A_x, n_x, c_x, ds_x, hcs_x, hn_x, hz_x, hd_x⟩ := open_i64s Try.underlying39 Try.underlying3 (by kernel_rfl) hf_x
  simp [Value.cells] at hcs_x
  obtain ⟨rfl, rfl, rfl⟩ := hcs_x
  obtain ⟨A0_c, n0_c, c0_c, rfl⟩ := okWide_slice Try.underlying39 (hval 2 39 v2 rfl rfl)
  obtain ⟨fu_c, hf_c⟩ := h2
  obtain ⟨A_c, n_c, c_c, ds_c, hcs_c, hn_c, hz_c, hd_c⟩ := open_i64s Try.underlying39 Try.underlying3 (by kernel_rfl) hf_c
  simp [Value.cells] at hcs_c
  obtain ⟨rfl, rfl, rfl⟩ := hcs_c
  clear hval0
  have hWW := hW'
  refine (topNothingGreater_walk A0_l n0_l c0_l ds_l A0_x n0_x c0_x ds_x A0_c n0_c c0_c ds_c W hn_l hd_l hn_x hz_x hd_x hn_c hz_c hd_c).mono fun e W' ⟨he, hb⟩ => ?_
  subst he
  exact ⟨_, rfl, law_post (pa := p0 ++ (p1 ++ (p2 ++ []))) (pv := []) hWW (fun _ _ _ => (trodAll_cons_mk (shut_bool Try.underlying4 _) trodAll_mk0)) (fun sp hsp => args_back (by kernel_rfl) _ _ _ _ (by kernel_rfl) hA0 (fun x hx => hb.same (hWW.lt x (List.mem_append_left _ hx))) (fun x hx => hsp x (List.mem_append_left _ hx))) (fun _ _ => rfl) rfl hb⟩

theorem topNothingGreater_holds : Rows.TopNothingGreaterSaid :=
  OpenClaim.holds_of_wide 7 Try.f7 rfl rfl rfl rfl rfl rfl rfl ⟨rfl, rfl, rfl, rfl, rfl⟩ rfl rfl rfl rfl rfl (by kernel_rfl) Try.func7 (by kernel_rfl)
    (of_decide_eq_true (by kernel_rfl)) (by unfold Func.isWrapper; first | (rw [if_pos (by decide +kernel)]; kernel_rfl) | (rw [if_neg (by decide +kernel)]; exact ⟨rfl, rfl⟩))
    (fun os started H enc _ => topNothingGreater_lifted os started H enc)
end Go.Proofs.Ytnilfacofikoaaa
