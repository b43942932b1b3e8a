/- The contract of agrafferef01.Line for valid dots. -/
import Derived.Test.YtnilfacofikoaaaLineA
import Derived.Test.YtnilfacofikoaaaBaseLow
import Derived.Test.YtnilfacofikoaaaBaseCmp
import Derived.Deep.DeepCutAuto
namespace Go.Proofs.Ytnilfacofikoaaa
open Go.RowKit
set_option linter.unusedVariables false
set_option linter.unusedSimpArgs false

/-- The cells of the best line so far: of none, or of three dots. -/
def bestC (ds : List (Int × Int)) : Option (Nat × Nat × Nat) → List Value
  | none => [.int .i64 0, .int .i64 0, .int .i64 0, .int .i64 0, .int .i64 (-1), .int .i64 1, .int .i64 0, .int .i64 0, .int .i64 0]
  | some p => [.int .i64 (pSN ds p), .int .i64 (pSD ds p), .int .i64 (pKN ds p), .int .i64 (pKD ds p), .int .i64 (pEN ds p), .int .i64 (pED ds p), .int .i64 (p.1 : Nat), .int .i64 (p.2.1 : Nat), .int .i64 (p.2.2 : Nat)]
def oI (ds : List (Int × Int)) (i : Nat) : Option (Nat × Nat × Nat) := if i = 0 then none else some (iTo ds i (0, 1, 2))
def oJ (ds : List (Int × Int)) (i t : Nat) : Option (Nat × Nat × Nat) := if i = 0 ∧ t = 0 then none else some (jTo ds i t (iTo ds i (0, 1, 2)))
def oK (ds : List (Int × Int)) (i t s : Nat) : Option (Nat × Nat × Nat) := if i = 0 ∧ t = 0 ∧ s = 0 then none else some (kTo ds i (i + 1 + t) s (jTo ds i t (iTo ds i (0, 1, 2))))
theorem oJ_start (ds : List (Int × Int)) (i : Nat) : oJ ds i 0 = oI ds i := by
  unfold oJ oI
  by_cases h : i = 0
  · rw [if_pos ⟨h, rfl⟩, if_pos h]
  · rw [if_neg (fun x => h x.1), if_neg h]; rfl
theorem oK_start (ds : List (Int × Int)) (i t : Nat) : oK ds i t 0 = oJ ds i t := by
  unfold oJ oK
  by_cases h : i = 0 ∧ t = 0
  · rw [if_pos ⟨h.1, h.2, rfl⟩, if_pos h]
  · rw [if_neg (fun x => h ⟨x.1, x.2.1⟩), if_neg h]; rfl
theorem oK_end {ds : List (Int × Int)} {i t s : Nat} (h3 : 3 ≤ ds.length) (hs : s = ds.length - (i + 1 + t + 1)) (ht : i + 1 + t < ds.length) : oK ds i t s = oJ ds i (t + 1) := by
  unfold oJ oK
  rw [if_neg (by omega), if_neg (by omega), jTo, hs]
theorem oJ_end {ds : List (Int × Int)} {i t : Nat} (h3 : 3 ≤ ds.length) (ht : t = ds.length - (i + 1)) (hi : i < ds.length) : oJ ds i t = oI ds (i + 1) := by
  unfold oJ oI
  rw [if_neg (by omega), if_neg (by omega), iTo, ht]
theorem oI_end {ds : List (Int × Int)} (h3 : 3 ≤ ds.length) : oI ds ds.length = some (bestT ds) := by
  unfold oI bestT
  rw [if_neg (by omega)]
/-- The error's parts of the best line so far. -/
def errN (ds : List (Int × Int)) : Option (Nat × Nat × Nat) → Int
  | none => -1
  | some p => pEN ds p
def errD (ds : List (Int × Int)) : Option (Nat × Nat × Nat) → Int
  | none => 1
  | some p => pED ds p
def okO (n : Nat) : Option (Nat × Nat × Nat) → Prop
  | none => True
  | some p => okT n p
theorem okO_K {ds : List (Int × Int)} (h : DotsOk ds) {i t s : Nat} (hi : i < ds.length) (ht : i + 1 + t ≤ ds.length) (hs : s = 0 ∨ i + 1 + t + s < ds.length) (h1 : t = 0 ∨ i + t < ds.length) : okO ds.length (oK ds i t s) := by
  have h3 := h.three
  unfold oK
  split
  · trivial
  · have k1 := (iTo_max h (p := (0, 1, 2)) ⟨by decide, by decide, by show 2 < ds.length; omega⟩ i (by omega)).1
    have k2 : okT ds.length (jTo ds i t (iTo ds i (0, 1, 2))) := by
      rcases h1 with rfl | h1
      · exact k1
      · exact (jTo_max h (i := i) k1 t h1).1
    rcases hs with rfl | hs
    · exact k2
    · exact (kTo_max h k2 (show i < i + 1 + t by omega) s hs).1
theorem err_ok {ds : List (Int × Int)} (h : DotsOk ds) {o : Option (Nat × Nat × Nat)} (ho : okO ds.length o) : okF (errN ds o) (errD ds o) := by
  cases o with
  | none => exact ⟨⟨by show (1 : Int) ≤ 1; omega, by show Nat.gcd (Int.natAbs (-1)) (Int.natAbs 1) = 1; decide⟩, by show -1000000000 ≤ (-1 : Int) ∧ (-1 : Int) ≤ 1000000000; omega, by show (1 : Int) ≤ 1000000000; omega⟩
  | some p =>
    obtain ⟨b1, b2, b3⟩ := bend_small h ho
    obtain ⟨_, _, _, _, _, _, _, m3⟩ := low_parts (n := ((bH ds p.1 p.2.1 p.2.2).natAbs : Int)) (d := 2 * bW ds p.1 p.2.2) (by omega) (by omega)
    exact m3
/-- Is the new triple's error greater? -/
def newer (ds : List (Int × Int)) (o : Option (Nat × Nat × Nat)) (i j k : Nat) : Bool := decide (errN ds o * lD ((bH ds i j k).natAbs : Int) (2 * bW ds i k) < lN ((bH ds i j k).natAbs : Int) (2 * bW ds i k) * errD ds o)
theorem oK_next {ds : List (Int × Int)} (h : DotsOk ds) {i t s : Nat} (hi : i + 1 + t + 1 + s < ds.length) (ho : okO ds.length (oK ds i t s)) :
    oK ds i t (s + 1) = if newer ds (oK ds i t s) i (i + 1 + t) (i + 1 + t + 1 + s) = true then some (i, i + 1 + t, i + 1 + t + 1 + s) else oK ds i t s := by
  have hq : okT ds.length (i, i + 1 + t, i + 1 + t + 1 + s) := ⟨by show i < i + 1 + t; omega, by show i + 1 + t < i + 1 + t + 1 + s; omega, hi⟩
  obtain ⟨b1, b2, b3⟩ := bend_small h hq
  simp only at b1 b2 b3
  have e1 : oK ds i t (s + 1) = some (pickT ds (kTo ds i (i + 1 + t) s (jTo ds i t (iTo ds i (0, 1, 2)))) i (i + 1 + t) (i + 1 + t + 1 + s)) := if_neg (by omega)
  rw [e1]
  by_cases h0 : i = 0 ∧ t = 0 ∧ s = 0
  · obtain ⟨rfl, rfl, rfl⟩ := h0
    have e2 : oK ds 0 0 0 = none := if_pos ⟨rfl, rfl, rfl⟩
    have hn : newer ds (oK ds 0 0 0) 0 (0 + 1 + 0) (0 + 1 + 0 + 1 + 0) = true := by
      rw [e2]
      refine decide_eq_true ?_
      obtain ⟨g, hg, g1, g2, _, _, _, g3⟩ := low_parts (n := ((bH ds 0 (0 + 1 + 0) (0 + 1 + 0 + 1 + 0)).natAbs : Int)) (d := 2 * bW ds 0 (0 + 1 + 0 + 1 + 0)) (by omega) (by omega)
      have hx : 0 ≤ lN ((bH ds 0 (0 + 1 + 0) (0 + 1 + 0 + 1 + 0)).natAbs : Int) (2 * bW ds 0 (0 + 1 + 0 + 1 + 0)) := by
        rcases Int.lt_or_le (lN ((bH ds 0 (0 + 1 + 0) (0 + 1 + 0 + 1 + 0)).natAbs : Int) (2 * bW ds 0 (0 + 1 + 0 + 1 + 0))) 0 with hlt | hge
        · have := Int.mul_neg_of_pos_of_neg (show 0 < g by omega) hlt
          omega
        · exact hge
      have hy := g3.1.1
      show (-1 : Int) * _ < _ * (1 : Int)
      omega
    rw [if_pos hn]
    congr 1
    have e3 : kTo ds 0 (0 + 1 + 0) 0 (jTo ds 0 0 (iTo ds 0 (0, 1, 2))) = (0, 1, 2) := rfl
    rw [e3]
    unfold pickT
    split <;> rfl
  · have e2 : oK ds i t s = some (kTo ds i (i + 1 + t) s (jTo ds i t (iTo ds i (0, 1, 2)))) := if_neg h0
    rw [e2] at ho ⊢
    obtain ⟨p, hp⟩ : ∃ p, p = kTo ds i (i + 1 + t) s (jTo ds i t (iTo ds i (0, 1, 2))) := ⟨_, rfl⟩
    rw [← hp] at ho ⊢
    obtain ⟨c1, c2, c3⟩ := bend_small h (show okT ds.length p from ho)
    have hc := cmp_beyond (h1 := ((bH ds i (i + 1 + t) (i + 1 + t + 1 + s)).natAbs : Int)) (w1 := bW ds i (i + 1 + t + 1 + s)) (h2 := ((bH ds p.1 p.2.1 p.2.2).natAbs : Int)) (w2 := bW ds p.1 p.2.2) (by omega) (by omega) (by omega) (by omega)
    unfold pickT
    have hb : beyondB (bH ds i (i + 1 + t) (i + 1 + t + 1 + s)) (bW ds i (i + 1 + t + 1 + s)) (bH ds p.1 p.2.1 p.2.2) (bW ds p.1 p.2.2) = newer ds (some p) i (i + 1 + t) (i + 1 + t + 1 + s) := by
      unfold beyondB newer
      rw [decide_eq_decide]
      exact hc.symm
    rw [hb]
    split <;> rfl
def zero9 : List Value := [.int .i64 0, .int .i64 0, .int .i64 0, .int .i64 0, .int .i64 0, .int .i64 0, .int .i64 0, .int .i64 0, .int .i64 0]
set_option maxHeartbeats 20000000 in
set_option maxRecDepth 100000 in
theorem refLine_good (b off n cap : Nat) (ds : List (Int × Int)) (w : World) (hn : ds.length = n) (hb : b < w.heap.size) (hok : dotsErr ds = 0)
    (hc : ∀ i, i < n → w.cell? ⟨b, off + i * 2, none⟩ = some (.int .i64 (dX ds i)) ∧ w.cell? ⟨b, off + i * 2 + 1, none⟩ = some (.int .i64 (dY ds i))) :
    Calls Try.prog 25 #[.slice (some ⟨b, off, none⟩) n cap] w fun e w' => e = .returned (.agg (bestC ds (some (bestT ds))).toArray) ∧ Below w.heap.size w w' := by
  have HOK := hide (dots_ok hok)
  have n3 : 3 ≤ n := by rw [← hn]; exact HOK.out.three
  have n60 : n ≤ 60 := by rw [← hn]; exact HOK.out.sixty
  have HN := hide hn
  have HC := hide hc
  clear hn hok hc
  have L0 := hide (Lv.start w)
  go_enter Try.func25, Try.ntmps25
  go_wp2
  go_loopw [4] (fun i wr => ∃ t : Nat, t ≤ n ∧ i = .int .i64 t ∧ Hid (Lv w wr [(w.heap.size + 1, 55, bestC ds (oI ds t)), (w.heap.size, 55, zero9)])) (fun i _ => n - (intOf i).toNat)
  case atStart => exact ⟨0, by omega, rfl, hide (by simpa [bestC, oI, zero9] using (L0.out.put zero9 55).put (bestC ds none) 55)⟩
  case round =>
    obtain ⟨W1, hW1⟩ : ∃ v : World, v = wr := ⟨_, rfl⟩
    subst hW1
    obtain ⟨t, ht, rfl, HT⟩ := hrel
    by_cases htl : t < n
    · have htl' : (t : Int) < (n : Int) := by omega
      rw [← oJ_start] at HT
      go_wp2
      go_loopw [5] (fun j wr => ∃ s : Nat, t + 1 + s ≤ n ∧ j = .int .i64 ((t + 1 + s : Nat) : Int) ∧ Hid (Lv w wr [(w.heap.size + 1, 55, bestC ds (oJ ds t s)), (w.heap.size, 55, zero9)])) (fun j _ => n - (intOf j).toNat)
      case atStart => exact ⟨0, by omega, by go_num, HT⟩
      case round =>
        obtain ⟨W2, hW2⟩ : ∃ v : World, v = wr := ⟨_, rfl⟩
        subst hW2
        obtain ⟨s, hs, rfl, HS⟩ := hrel
        obtain ⟨j, hj⟩ : ∃ j, j = t + 1 + s := ⟨_, rfl⟩
        rw [← hj]
        have HJ := hide hj
        have hj1 : j ≤ n := by omega
        have htj : t < j := by omega
        clear hj
        by_cases hjl : j < n
        · have hjl' : (j : Int) < (n : Int) := by omega
          rw [← oK_start] at HS
          go_wp2
          go_loopw [6] (fun k wr => ∃ r : Nat, j + 1 + r ≤ n ∧ k = .int .i64 ((j + 1 + r : Nat) : Int) ∧ Hid (Lv w wr [(w.heap.size + 1, 55, bestC ds (oK ds t s r)), (w.heap.size, 55, zero9)])) (fun k _ => n - (intOf k).toNat)
          case atStart => exact ⟨0, by omega, by go_num, HS⟩
          case round =>
            obtain ⟨W3, hW3⟩ : ∃ v : World, v = wr := ⟨_, rfl⟩
            subst hW3
            obtain ⟨r, hr, rfl, HR⟩ := hrel
            obtain ⟨k, hk⟩ : ∃ k, k = j + 1 + r := ⟨_, rfl⟩
            rw [← hk]
            have HK := hide hk
            have hk1 : k ≤ n := by omega
            have hjk : j < k := by omega
            clear hk
            by_cases hkl : k < n
            · have hkl' : (k : Int) < (n : Int) := by omega
              have hW := HR.out.size
              have hbl : b < W3.heap.size := by omega
              have nb : ¬ b = W3.heap.size := by omega
              have nb1 : ¬ b = W3.heap.size + 1 := by omega
              have nb2 : ¬ b = W3.heap.size + 1 + 1 := by omega
              have hbl1 : b < W3.heap.size + 1 := by omega
              have hbl2 : b < W3.heap.size + 1 + 1 := by omega
              have hbl3 : b < W3.heap.size + 1 + 1 + 1 := by omega
              have hoo := okO_K HOK.out (i := t) (t := s) (s := r) (by rw [HN.out]; exact htl) (by have := HJ.out; rw [HN.out]; omega) (Or.inr (by have := HK.out; have := HJ.out; rw [HN.out]; omega)) (Or.inr (by have := HJ.out; rw [HN.out]; omega))
              have hnx := oK_next HOK.out (i := t) (t := s) (s := r) (by have := HK.out; have := HJ.out; rw [HN.out]; omega) hoo
              rw [← HJ.out, ← HK.out] at hnx
              have herr := err_ok HOK.out hoo
              obtain ⟨o, hoe⟩ : ∃ o, o = oK ds t s r := ⟨_, rfl⟩
              rw [← hoe] at hnx herr HR
              have HNX := hide hnx
              obtain ⟨b1, b2, b3⟩ := bend_small HOK.out (p := (t, j, k)) ⟨htj, hjk, by rw [HN.out]; exact hkl⟩
              simp only at b1 b2 b3
              have hst := start_in HOK.out (p := (t, j, k)) ⟨htj, hjk, by rw [HN.out]; exact hkl⟩
              have ix := HOK.out.inX t (by rw [HN.out]; exact htl)
              have iy := HOK.out.inY t (by rw [HN.out]; exact htl)
              have jx := HOK.out.inX j (by rw [HN.out]; exact hjl)
              have jy := HOK.out.inY j (by rw [HN.out]; exact hjl)
              have kx := HOK.out.inX k (by rw [HN.out]; exact hkl)
              have ky := HOK.out.inY k (by rw [HN.out]; exact hkl)
              unfold inD at ix iy jx jy kx ky
              have a0 := (HR.out.below.cell (p := ⟨b, off + t * 2, none⟩) hb).trans (HC.out t (by omega)).1
              have a1 := (HR.out.below.cell (p := ⟨b, off + t * 2 + 1, none⟩) hb).trans (HC.out t (by omega)).2
              have c0 := (HR.out.below.cell (p := ⟨b, off + j * 2, none⟩) hb).trans (HC.out j (by omega)).1
              have c1 := (HR.out.below.cell (p := ⟨b, off + j * 2 + 1, none⟩) hb).trans (HC.out j (by omega)).2
              have e0 := (HR.out.below.cell (p := ⟨b, off + k * 2, none⟩) hb).trans (HC.out k (by omega)).1
              have e1 := (HR.out.below.cell (p := ⟨b, off + k * 2 + 1, none⟩) hb).trans (HC.out k (by omega)).2
              have eh : bH ds t j k = (dY ds j - dY ds t) * (dX ds k - dX ds t) - (dY ds k - dY ds t) * (dX ds j - dX ds t) := rfl
              have ew : bW ds t k = dX ds k - dX ds t := rfl
              have es : numS ds (t, j, k) = 2 * (dY ds t * dX ds k - dY ds k * dX ds t) + bH ds t j k := rfl
              have ekk : numK ds (t, j, k) = dY ds k - dY ds t := rfl
              have ec : bestC ds (some (t, j, k)) = [.int .i64 (lN (numS ds (t, j, k)) (2 * bW ds t k)), .int .i64 (lD (numS ds (t, j, k)) (2 * bW ds t k)), .int .i64 (lN (numK ds (t, j, k)) (bW ds t k)), .int .i64 (lD (numK ds (t, j, k)) (bW ds t k)), .int .i64 (lN ((bH ds t j k).natAbs : Int) (2 * bW ds t k)), .int .i64 (lD ((bH ds t j k).natAbs : Int) (2 * bW ds t k)), .int .i64 (t : Nat), .int .i64 (j : Nat), .int .i64 (k : Nat)] := rfl
              have en : newer ds o t j k = decide (errN ds o * lD ((bH ds t j k).natAbs : Int) (2 * bW ds t k) < lN ((bH ds t j k).natAbs : Int) (2 * bW ds t k) * errD ds o) := rfl
              obtain ⟨ax, hax⟩ : ∃ x, x = dX ds t := ⟨_, rfl⟩
              obtain ⟨ay, hay⟩ : ∃ x, x = dY ds t := ⟨_, rfl⟩
              obtain ⟨bx, hbx⟩ : ∃ x, x = dX ds j := ⟨_, rfl⟩
              obtain ⟨by', hby⟩ : ∃ x, x = dY ds j := ⟨_, rfl⟩
              obtain ⟨cx, hcx⟩ : ∃ x, x = dX ds k := ⟨_, rfl⟩
              obtain ⟨cy, hcy⟩ : ∃ x, x = dY ds k := ⟨_, rfl⟩
              obtain ⟨H, hH⟩ : ∃ x, x = bH ds t j k := ⟨_, rfl⟩
              obtain ⟨V, hV⟩ : ∃ x, x = bW ds t k := ⟨_, rfl⟩
              obtain ⟨Sn, hSn⟩ : ∃ x, x = numS ds (t, j, k) := ⟨_, rfl⟩
              obtain ⟨Kn, hKn⟩ : ∃ x, x = numK ds (t, j, k) := ⟨_, rfl⟩
              rw [← hax] at ix a0 eh ew es
              rw [← hay] at iy a1 eh es ekk
              rw [← hbx] at jx c0 eh
              rw [← hby] at jy c1 eh
              rw [← hcx] at kx e0 eh ew es
              rw [← hcy] at ky e1 eh es ekk
              rw [← hH] at b1 eh es ec en
              rw [← hV] at b1 b2 b3 ew ec en
              rw [← hSn] at hst es ec
              rw [← hKn] at ekk ec
              have HEC := hide ec
              have HEN := hide en
              have HES := hide es
              clear hax hay hbx hby hcx hcy hH hV hSn hKn ec en hnx hoo hoe
              go_upto_region 11 with fail
              go_cut [7, 8, 9] (fun s7 s8 s9 wx => ∃ g7 g8 g9 : Nat, s7 = .pointer (some ⟨g7, 0, none⟩) ∧ s8 = .pointer (some ⟨g8, 0, none⟩) ∧ s9 = .pointer (some ⟨g9, 0, none⟩) ∧
                Hid (Lv w wx [(g9, 70, [.int .i64 cx, .int .i64 cy]), (g8, 70, [.int .i64 bx, .int .i64 by']), (g7, 70, [.int .i64 ax, .int .i64 ay]), (w.heap.size + 1, 55, bestC ds o), (w.heap.size, 55, zero9)]))
              case first =>
                go_region_held3 (fun w' => w'.cell? ⟨b, off + t * 2, none⟩ = some (.int .i64 ax) ∧ w'.cell? ⟨b, off + t * 2 + 1, none⟩ = some (.int .i64 ay) ∧ w'.cell? ⟨b, off + j * 2, none⟩ = some (.int .i64 bx) ∧ w'.cell? ⟨b, off + j * 2 + 1, none⟩ = some (.int .i64 by') ∧ w'.cell? ⟨b, off + k * 2, none⟩ = some (.int .i64 cx) ∧ w'.cell? ⟨b, off + k * 2 + 1, none⟩ = some (.int .i64 cy))
                  (first | (simp [go_sem, World.cell?_alloc_past, hbl, hbl1, hbl2, hbl3, a0, a1, c0, c1, e0, e1]; done) | go_keep) (fail)
                all_goals
                  go_wp2_with fail
                  go_meet
                  refine ⟨_, _, _, rfl, rfl, rfl, hide ⟨?_, fun x hx => ?_⟩⟩
                  · repeat (first | with_reducible exact HR.out.below | refine Below.setCell ?_ (by first | omega | (simp; done) | (simp; omega)) _ | refine Below.alloc ?_ (by first | omega | (simp; done) | (simp; omega)) _ | refine Below.drew ?_)
                  · simp only [List.mem_cons, List.not_mem_nil, or_false] at hx
                    rcases hx with rfl | rfl | rfl | rfl | rfl
                    all_goals
                      repeat (first | (with_reducible refine HR.out.get ?_; simp; done) | (with_reducible refine Blk.new _ _ _ _ ?_; simp; done) | with_reducible refine Blk.drew ?_ | with_reducible refine Blk.alloc ?_ _)
              case rest =>
                obtain ⟨g7, g8, g9, rfl, rfl, rfl, L1⟩ := hcut
                obtain ⟨W4, hW4⟩ : ∃ v : World, v = wc := ⟨_, rfl⟩
                subst hW4
                have eb : bestC ds o = [(bestC ds o).getD 0 undef, (bestC ds o).getD 1 undef, (bestC ds o).getD 2 undef, (bestC ds o).getD 3 undef, .int .i64 (errN ds o), .int .i64 (errD ds o), (bestC ds o).getD 6 undef, (bestC ds o).getD 7 undef, (bestC ds o).getD 8 undef] := by cases o <;> rfl
                have EB := hide eb
                obtain ⟨z0, hz0⟩ : ∃ z, z = (bestC ds o).getD 0 undef := ⟨_, rfl⟩
                obtain ⟨z1, hz1⟩ : ∃ z, z = (bestC ds o).getD 1 undef := ⟨_, rfl⟩
                obtain ⟨z2, hz2⟩ : ∃ z, z = (bestC ds o).getD 2 undef := ⟨_, rfl⟩
                obtain ⟨z3, hz3⟩ : ∃ z, z = (bestC ds o).getD 3 undef := ⟨_, rfl⟩
                obtain ⟨z6, hz6⟩ : ∃ z, z = (bestC ds o).getD 6 undef := ⟨_, rfl⟩
                obtain ⟨z7, hz7⟩ : ∃ z, z = (bestC ds o).getD 7 undef := ⟨_, rfl⟩
                obtain ⟨z8, hz8⟩ : ∃ z, z = (bestC ds o).getD 8 undef := ⟨_, rfl⟩
                rw [← hz0, ← hz1, ← hz2, ← hz3, ← hz6, ← hz7, ← hz8] at EB
                rw [EB.out] at L1
                unfold zero9 at L1
                obtain ⟨x2, hx2⟩ : ∃ z, z = errN ds o := ⟨_, rfl⟩
                obtain ⟨y2, hy2⟩ : ∃ z, z = errD ds o := ⟨_, rfl⟩
                rw [← hx2, ← hy2] at L1 herr
                rw [← hx2, ← hy2] at HEN
                have HBK : Hid (bestC ds o = [z0, z1, z2, z3, .int .i64 x2, .int .i64 y2, z6, z7, z8]) := by show _ = _; rw [EB.out, hx2, hy2]
                clear hz0 hz1 hz2 hz3 hz6 hz7 hz8 hx2 hy2 eb EB a0 a1 c0 c1 e0 e1 nb nb1 nb2 hbl hbl1 hbl2 hbl3 HR
                have F1 := L1.out.at
                have F1 := L1.out.at
                simp only [AllAt, CellsAt, updL, List.map, Nat.zero_add, Nat.reduceAdd, and_true, World.size_alloc, World.heap_drewN, heap_drew, size_set, Nat.add_eq_left, Nat.left_eq_add, Nat.add_right_cancel_iff, ne_up2, ne_dn2, ne_up3, ne_dn3, ne_up4, ne_dn4, Nat.reduceEqDiff, Nat.one_ne_zero, Nat.succ_ne_zero, Nat.zero_ne_one, reduceIte, List.set_cons_zero, List.set_cons_succ] at F1
                have HABS := hide (fun W => abs_any H W (by omega) (by omega))
                rw [← ew] at eh
                have m1 := mul_bound (x := by' - ay) (y := V) 20000 20000 (by omega) (by omega)
                have m2 := mul_bound (x := cy - ay) (y := bx - ax) 20000 20000 (by omega) (by omega)
                rw [show (20000 * 20000 : Nat) = 400000000 from rfl] at m1 m2
                have ew' : cx - ax = V := ew.symm
                have eh' : (by' - ay) * V - (cy - ay) * (bx - ax) = H := eh.symm
                have hHb : -400000000 ≤ H ∧ H ≤ 400000000 := by omega
                obtain ⟨_, _, _, _, lp4, lp5, _, lp6⟩ := low_parts (n := (H.natAbs : Int)) (d := 2 * V) (by omega) (by omega)
                have CL := fun W => baseLowest_any (H.natAbs : Int) (2 * V) W (by omega) (by omega)
                rw [← lp4, ← lp5] at CL
                obtain ⟨A, hA⟩ : ∃ A : Int, A = (H.natAbs : Int) := ⟨_, rfl⟩
                obtain ⟨x1, hx1⟩ : ∃ z, z = lN (H.natAbs : Int) (2 * V) := ⟨_, rfl⟩
                obtain ⟨y1, hy1⟩ : ∃ z, z = lD (H.natAbs : Int) (2 * V) := ⟨_, rfl⟩
                rw [← hx1, ← hy1, ← hA] at CL
                rw [← hA] at HABS
                rw [← hx1, ← hy1] at lp6 HEN HEC
                replace CL := hide CL
                have CC := hide (fun W => baseCmp_any x1 y1 x2 y2 W lp6 herr)
                have hprod := prodN lp6.2.1 ⟨by have := herr.1.1; omega, herr.2.2⟩
                have hprod2 := prodN herr.2.1 ⟨by have := lp6.1.1; omega, lp6.2.2⟩
                clear hA hx1 hy1 lp4 lp5 ew es b1 eh
                go_wp2_with fail
                refine Lv.same (HABS.out _) ?_
                go_wp2_with fail
                refine Lv.call (CL.out _) L1.out ?_
                intro w2 L2'
                have L2 := hide L2'
                have F2 := L2'.at
                clear L2' F1
                simp only [AllAt, CellsAt, updL, List.map, Nat.zero_add, Nat.reduceAdd, and_true, World.size_alloc, World.heap_drewN, heap_drew, size_set, Nat.add_eq_left, Nat.left_eq_add, Nat.add_right_cancel_iff, ne_up2, ne_dn2, ne_up3, ne_dn3, ne_up4, ne_dn4, Nat.reduceEqDiff, Nat.one_ne_zero, Nat.succ_ne_zero, Nat.zero_ne_one, reduceIte, List.set_cons_zero, List.set_cons_succ] at F2
                go_wp2_with fail
                refine Lv.call (CC.out _) (L2.out.put _ _) ?_
                intro w3 L3'
                have L3 := hide L3'
                have F3 := L3'.at
                clear L3' F2
                simp only [AllAt, CellsAt, updL, List.map, Nat.zero_add, Nat.reduceAdd, and_true, World.size_alloc, World.heap_drewN, heap_drew, size_set, Nat.add_eq_left, Nat.left_eq_add, Nat.add_right_cancel_iff, ne_up2, ne_dn2, ne_up3, ne_dn3, ne_up4, ne_dn4, Nat.reduceEqDiff, Nat.one_ne_zero, Nat.succ_ne_zero, Nat.zero_ne_one, reduceIte, List.set_cons_zero, List.set_cons_succ] at F3
                clear m1 m2 eh' HABS CL CC
                by_cases hgt : x2 * y1 < x1 * y2
                · have hz : cmpZ (x1 * y2) (x2 * y1) = 1 := cmpZ_gt hgt
                  have hok1 : oK ds t s (r + 1) = some (t, j, k) := HNX.out.trans (if_pos (by rw [HEN.out]; exact decide_eq_true hgt))
                  have HO1 := hide hok1
                  rw [hz]
                  clear hz hok1 hgt hprod hprod2 herr lp6
                  obtain ⟨P1, hP1⟩ : ∃ z, z = 2 * ay := ⟨_, rfl⟩
                  have n1 := mul_bound (x := P1) (y := V) 20000 20000 (by omega) (by omega)
                  obtain ⟨P2, hP2⟩ : ∃ z, z = P1 * V := ⟨_, rfl⟩
                  obtain ⟨P3, hP3⟩ : ∃ z, z = P2 + H := ⟨_, rfl⟩
                  obtain ⟨P4, hP4⟩ : ∃ z, z = 2 * Kn := ⟨_, rfl⟩
                  have n2 := mul_bound (x := P4) (y := ax) 40000 10000 (by omega) (by omega)
                  obtain ⟨P5, hP5⟩ : ∃ z, z = P4 * ax := ⟨_, rfl⟩
                  obtain ⟨D2, hD2⟩ : ∃ z, z = 2 * V := ⟨_, rfl⟩
                  rw [show (20000 * 20000 : Nat) = 400000000 from rfl, ← hP2] at n1
                  rw [show (40000 * 10000 : Nat) = 400000000 from rfl, ← hP5] at n2
                  have hSn : P3 - P5 = Sn := by
                    rw [HES.out, hP3, hP2, hP1, hP5, hP4, ekk, ← ew']
                    simp only [Int.sub_mul, Int.mul_sub, Int.mul_assoc, Int.mul_comm, Int.mul_left_comm]
                    omega
                  have W1 : IntKind.i64.wrap (cy - ay) = Kn := by rw [ekk, IntKind.wrap_i64]; omega
                  have W2 : IntKind.i64.wrap (2 * ay) = P1 := by rw [hP1, IntKind.wrap_i64]; omega
                  have W3' : IntKind.i64.wrap (P1 * V) = P2 := by rw [hP2, IntKind.wrap_i64]; omega
                  have W4' : IntKind.i64.wrap (P2 + H) = P3 := by rw [hP3, IntKind.wrap_i64]; omega
                  have W5 : IntKind.i64.wrap (2 * Kn) = P4 := by rw [hP4, IntKind.wrap_i64]; omega
                  have W6 : IntKind.i64.wrap (P4 * ax) = P5 := by rw [hP5, IntKind.wrap_i64]; omega
                  have W7 : IntKind.i64.wrap (P3 - P5) = Sn := by rw [hSn, IntKind.wrap_i64]; omega
                  have W8 : IntKind.i64.wrap (2 * V) = D2 := by rw [hD2, IntKind.wrap_i64]; omega
                  obtain ⟨_, _, _, _, kp4, kp5, _, _⟩ := low_parts (n := Kn) (d := V) (by omega) (by omega)
                  obtain ⟨_, _, _, _, sp4, sp5, _, _⟩ := low_parts (n := Sn) (d := D2) (by omega) (by omega)
                  have C1 := fun W => baseLowest_any Kn V W (by omega) (by omega)
                  have C2 := fun W => baseLowest_any Sn D2 W (by omega) (by omega)
                  rw [← kp4, ← kp5] at C1
                  rw [← sp4, ← sp5] at C2
                  rw [← hD2] at HEC
                  obtain ⟨kn, hkn'⟩ : ∃ z, z = lN Kn V := ⟨_, rfl⟩
                  obtain ⟨kd, hkd'⟩ : ∃ z, z = lD Kn V := ⟨_, rfl⟩
                  obtain ⟨sn, hsn'⟩ : ∃ z, z = lN Sn D2 := ⟨_, rfl⟩
                  obtain ⟨sd, hsd'⟩ : ∃ z, z = lD Sn D2 := ⟨_, rfl⟩
                  rw [← hkn', ← hkd'] at C1 HEC
                  rw [← hsn', ← hsd'] at C2 HEC
                  replace C1 := hide C1
                  replace C2 := hide C2
                  clear hP1 hP2 hP3 hP4 hP5 hD2 hSn kp4 kp5 sp4 sp5 hkn' hkd' hsn' hsd' ekk ew' n1 n2 HES
                  have n7 : g7 ≠ w.heap.size + 1 := (L1.out.get (g := g7) (t := 70) (cs := [.int .i64 ax, .int .i64 ay]) (by simp)).ne (L1.out.get (g := w.heap.size + 1) (t := 55) (cs := [z0, z1, z2, z3, .int .i64 x2, .int .i64 y2, z6, z7, z8]) (by simp)) (by decide)
                  have n9 : g9 ≠ w.heap.size + 1 := (L1.out.get (g := g9) (t := 70) (cs := [.int .i64 cx, .int .i64 cy]) (by simp)).ne (L1.out.get (g := w.heap.size + 1) (t := 55) (cs := [z0, z1, z2, z3, .int .i64 x2, .int .i64 y2, z6, z7, z8]) (by simp)) (by decide)
                  have n7' : ¬ g7 = w.heap.size + 1 := n7
                  have n7'' : ¬ w.heap.size + 1 = g7 := fun h => n7 h.symm
                  have n9' : ¬ g9 = w.heap.size + 1 := n9
                  have n9'' : ¬ w.heap.size + 1 = g9 := fun h => n9 h.symm
                  have nw : ¬ w2.heap.size = w.heap.size + 1 := by
                    have := (L2.out.get (g := w.heap.size + 1) (t := 55) (cs := [z0, z1, z2, z3, .int .i64 x2, .int .i64 y2, z6, z7, z8]) (by simp)).lt
                    omega
                  have nw' : ¬ w.heap.size + 1 = w2.heap.size := fun h => nw h.symm
                  clear n7 n9
                  go_wp2
                  go_region_held3 (fun w' => (w'.cell? ⟨g7, 0, none⟩ = some (.int .i64 ax) ∧ w'.cell? ⟨g7, 1, none⟩ = some (.int .i64 ay)) ∧ w'.cell? ⟨g9, 1, none⟩ = some (.int .i64 cy) ∧ (w'.cell? ⟨w2.heap.size, 0, none⟩ = some (.int .i64 x1) ∧ w'.cell? ⟨w2.heap.size, 1, none⟩ = some (.int .i64 y1)))
                    (go_keep)
                    (first | (go_at_call 50; (first | ((with_reducible refine Lv.call (C1.out _) L4.out ?_); intro w5 L5'; have L5 := hide L5'; have F5 := L5'.at; clear L5'; simp only [AllAt, CellsAt, updL, List.map, Nat.zero_add, Nat.reduceAdd, and_true, World.size_alloc, World.heap_drewN, heap_drew, size_set, Nat.add_eq_left, Nat.left_eq_add, Nat.add_right_cancel_iff, ne_up2, ne_dn2, ne_up3, ne_dn3, ne_up4, ne_dn4, Nat.reduceEqDiff, Nat.one_ne_zero, Nat.succ_ne_zero, Nat.zero_ne_one, reduceIte, List.set_cons_zero, List.set_cons_succ] at F5) | ((with_reducible refine Lv.call (C2.out _) L4.out ?_); intro w5 L5'; have L5 := hide L5'; have F5 := L5'.at; clear L5'; simp only [AllAt, CellsAt, updL, List.map, Nat.zero_add, Nat.reduceAdd, and_true, World.size_alloc, World.heap_drewN, heap_drew, size_set, Nat.add_eq_left, Nat.left_eq_add, Nat.add_right_cancel_iff, ne_up2, ne_dn2, ne_up3, ne_dn3, ne_up4, ne_dn4, Nat.reduceEqDiff, Nat.one_ne_zero, Nat.succ_ne_zero, Nat.zero_ne_one, reduceIte, List.set_cons_zero, List.set_cons_succ] at F5) | ((with_reducible refine Lv.call (C1.out _) (L3.out.drew) ?_); intro w4 L4'; have L4 := hide L4'; have F4 := L4'.at; clear L4'; simp only [AllAt, CellsAt, updL, List.map, Nat.zero_add, Nat.reduceAdd, and_true, World.size_alloc, World.heap_drewN, heap_drew, size_set, Nat.add_eq_left, Nat.left_eq_add, Nat.add_right_cancel_iff, ne_up2, ne_dn2, ne_up3, ne_dn3, ne_up4, ne_dn4, Nat.reduceEqDiff, Nat.one_ne_zero, Nat.succ_ne_zero, Nat.zero_ne_one, reduceIte, List.set_cons_zero, List.set_cons_succ] at F4) | ((with_reducible refine Lv.call (C2.out _) (L3.out.drew) ?_); intro w4 L4'; have L4 := hide L4'; have F4 := L4'.at; clear L4'; simp only [AllAt, CellsAt, updL, List.map, Nat.zero_add, Nat.reduceAdd, and_true, World.size_alloc, World.heap_drewN, heap_drew, size_set, Nat.add_eq_left, Nat.left_eq_add, Nat.add_right_cancel_iff, ne_up2, ne_dn2, ne_up3, ne_dn3, ne_up4, ne_dn4, Nat.reduceEqDiff, Nat.one_ne_zero, Nat.succ_ne_zero, Nat.zero_ne_one, reduceIte, List.set_cons_zero, List.set_cons_succ] at F4))) | fail)
                  go_wp2
                  go_roundw
                  case rel =>
                    refine ⟨r + 1, by have := HK.out; omega, by have := HK.out; go_num, ?_⟩
                    rw [HO1.out, HEC.out]
                    have hB : w.heap.size ≤ w.heap.size + 1 := by omega
                    have h9 := ((((((((((L5.out.of (L' := [(w.heap.size + 1, 55, [z0, z1, z2, z3, .int .i64 x2, .int .i64 y2, z6, z7, z8]), (w.heap.size, 55, [.int .i64 0, .int .i64 0, .int .i64 0, .int .i64 0, .int .i64 0, .int .i64 0, .int .i64 0, .int .i64 0, .int .i64 0])]) (by simp)).set (w.heap.size + 1) 0 (.int .i64 sn) hB).set (w.heap.size + 1) 1 (.int .i64 sd) hB).set (w.heap.size + 1) 2 (.int .i64 kn) hB).set (w.heap.size + 1) 3 (.int .i64 kd) hB).set (w.heap.size + 1) 4 (.int .i64 x1) hB).set (w.heap.size + 1) 5 (.int .i64 y1) hB).set (w.heap.size + 1) 6 (.int .i64 (t : Nat)) hB).set (w.heap.size + 1) 7 (.int .i64 (j : Nat)) hB).set (w.heap.size + 1) 8 (.int .i64 (k : Nat)) hB)
                    simpa [updL, zero9, Hid] using h9
                  case measure => simp [intOf]; omega
                · have hz : ¬ 0 < cmpZ (x1 * y2) (x2 * y1) := by
                    unfold cmpZ
                    by_cases h : x1 * y2 < x2 * y1
                    · rw [if_pos h]; omega
                    · rw [if_neg h, if_neg hgt]; omega
                  have hok1 : oK ds t s (r + 1) = o := HNX.out.trans (if_neg (by rw [HEN.out]; simp; omega))
                  have HO1 := hide hok1
                  clear hok1 hgt hprod hprod2 herr lp6
                  go_wp2
                  go_roundw
                  case rel =>
                    refine ⟨r + 1, by have := HK.out; omega, by have := HK.out; go_num, ?_⟩
                    rw [HO1.out, HBK.out]
                    exact hide (L3.out.of (by simp [zero9]))
                  case measure => simp [intOf]; omega
            · have hkn : k = n := by omega
              have ej : oK ds t s r = oJ ds t (s + 1) := oK_end HOK.out.three (by have := HK.out; have := HJ.out; rw [HN.out]; omega) (by have := HJ.out; rw [HN.out]; omega)
              rw [ej] at HR
              clear ej hkn
              go_wp2
              go_roundw
              case rel => exact ⟨s + 1, by have := HJ.out; omega, by have := HJ.out; go_num, HR⟩
              case measure => simp [intOf]; omega
        · have ei : oJ ds t s = oI ds (t + 1) := oJ_end HOK.out.three (by have := HJ.out; rw [HN.out]; omega) (by rw [HN.out]; exact htl)
          rw [ei] at HS
          clear ei
          go_wp2
          go_roundw
          case rel => exact ⟨t + 1, by omega, by go_num, HS⟩
          case measure => simp [intOf]; omega
    · have htn : t = ds.length := by rw [HN.out]; omega
      rw [htn, oI_end HOK.out.three] at HT
      clear htn
      obtain ⟨p, hp⟩ : ∃ p, p = bestT ds := ⟨_, rfl⟩
      rw [← hp] at HT
      have HP := hide hp
      clear hp
      unfold bestC zero9 at HT
      have L1 := HT
      have F1 := L1.out.at
      have F1 := L1.out.at
      simp only [AllAt, CellsAt, updL, List.map, Nat.zero_add, Nat.reduceAdd, and_true, World.size_alloc, World.heap_drewN, heap_drew, size_set, Nat.add_eq_left, Nat.left_eq_add, Nat.add_right_cancel_iff, ne_up2, ne_dn2, ne_up3, ne_dn3, ne_up4, ne_dn4, Nat.reduceEqDiff, Nat.one_ne_zero, Nat.succ_ne_zero, Nat.zero_ne_one, reduceIte, List.set_cons_zero, List.set_cons_succ] at F1
      have hfin : (Value.agg (bestC ds (some p)).toArray) = .agg #[.int .i64 (pSN ds p), .int .i64 (pSD ds p), .int .i64 (pKN ds p), .int .i64 (pKD ds p), .int .i64 (pEN ds p), .int .i64 (pED ds p), .int .i64 (p.1 : Nat), .int .i64 (p.2.1 : Nat), .int .i64 (p.2.2 : Nat)] := rfl
      have HF := hide hfin
      clear hfin
      go_wp2
      refine bodyPost_ret (v := .agg #[.int .i64 (pSN ds p), .int .i64 (pSD ds p), .int .i64 (pKN ds p), .int .i64 (pKD ds p), .int .i64 (pEN ds p), .int .i64 (pED ds p), .int .i64 (p.1 : Nat), .int .i64 (p.2.1 : Nat), .int .i64 (p.2.2 : Nat)]) (by simp [results, Try.results25, go_sem, F1]) rfl ⟨by rw [← HP.out, HF.out], ?_⟩
      repeat (first | (with_reducible exact L1.out.below) | refine Below.setCell ?_ (by first | omega | (simp; done) | (simp; omega)) _ | refine Below.alloc ?_ (by first | omega | (simp; done) | (simp; omega)) _ | refine below_drewN ?_ _ | refine Below.drew ?_)
end Go.Proofs.Ytnilfacofikoaaa
