/- The contract of number.Scaled. -/
import Derived.Test.YtnilfacofikoaaaEncP
import Derived.Test.YtnilfacofikoaaaRange
import Derived.Test.YtnilfacofikoaaaFracCase
import Derived.RegionTactic
import Derived.ChangeAlike
namespace Go.Proofs.Ytnilfacofikoaaa
open Go.RowKit
set_option linter.unusedVariables false
set_option linter.unusedSimpArgs false

/-- The bounds of a range times a fraction, rounded outward. -/
def scX (a b m d : Int) : Int := (if m < 0 then b * m else a * m) / d
def scY (a b m d : Int) : Int := -(-(if m < 0 then a * m else b * m) / d)
def rangeT (x y e : Int) : Value := .tuple #[.agg #[.int .i64 x, .int .i64 y], .int .i64 e]
def scR (a b m d : Int) : Value := if okB (scX a b m d) ∧ okB (scY a b m d) then rangeT (scX a b m d) (scY a b m d) 0 else rangeT 0 0 8
theorem encR_yes {n m d : Int} (h : n.natAbs * m.natAbs / d.toNat ≤ 1000000000000000) : encR n m d = .tuple #[.agg #[.int .i64 (n * m / d), .int .i64 (-(-(n * m) / d))], .bool true] := if_pos h
theorem encR_no {n m d : Int} (h : ¬ n.natAbs * m.natAbs / d.toNat ≤ 1000000000000000) : encR n m d = .tuple #[.agg #[.int .i64 0, .int .i64 0], .bool false] := if_neg h
theorem far_of {n m d : Int} (hd : 1 ≤ d) (h : ¬ n.natAbs * m.natAbs / d.toNat ≤ 1000000000000000) : ¬ okB (n * m / d) ∧ ¬ okB (-(-(n * m) / d)) := by
  obtain ⟨D, rfl⟩ := Int.eq_ofNat_of_zero_le (show 0 ≤ d by omega)
  rw [Int.toNat_natCast] at h
  obtain ⟨N, hN⟩ : ∃ N, N = n.natAbs * m.natAbs := ⟨_, rfl⟩
  rw [← hN] at h
  have hneg := neg_ediv N D (by omega)
  have hpos : (N : Int) / (D : Int) = ((N / D : Nat) : Int) := rfl
  obtain ⟨q, hq⟩ : ∃ q, q = N / D := ⟨_, rfl⟩
  rw [← hq] at h hneg hpos
  have hneg2 : (-(N : Int)) / (D : Int) ≤ -(q : Int) := by rw [hneg]; split <;> omega
  unfold okB
  by_cases hs : n < 0 ↔ m < 0
  · rw [mul_same hs, ← hN]
    omega
  · rw [mul_other hs, ← hN, Int.neg_neg]
    omega
theorem near_of {n m d : Int} (hd : 1 ≤ d) (h : n.natAbs * m.natAbs / d.toNat ≤ 1000000000000000) : -1000000000000001 ≤ n * m / d ∧ n * m / d ≤ 1000000000000000 ∧ -1000000000000000 ≤ -(-(n * m) / d) ∧ -(-(n * m) / d) ≤ 1000000000000001 := by
  obtain ⟨D, rfl⟩ := Int.eq_ofNat_of_zero_le (show 0 ≤ d by omega)
  rw [Int.toNat_natCast] at h
  obtain ⟨N, hN⟩ : ∃ N, N = n.natAbs * m.natAbs := ⟨_, rfl⟩
  rw [← hN] at h
  have hneg := neg_ediv N D (by omega)
  have hpos : (N : Int) / (D : Int) = ((N / D : Nat) : Int) := rfl
  obtain ⟨q, hq⟩ : ∃ q, q = N / D := ⟨_, rfl⟩
  rw [← hq] at h hneg hpos
  have hneg2 : (-(N : Int)) / (D : Int) ≤ -(q : Int) ∧ -(q : Int) - 1 ≤ (-(N : Int)) / (D : Int) := by rw [hneg]; split <;> omega
  by_cases hs : n < 0 ↔ m < 0
  · rw [mul_same hs, ← hN]
    omega
  · rw [mul_other hs, ← hN, Int.neg_neg]
    omega
theorem floor_le_ceil (x d : Int) (hd : 1 ≤ d) : x / d ≤ -(-x / d) := by
  have h1 := Int.mul_ediv_self_le (x := x) (k := d) (by omega)
  have h2 := Int.mul_ediv_self_le (x := -x) (k := d) (by omega)
  have h3 : d * (x / d + -x / d) ≤ 0 := by rw [Int.mul_add]; omega
  have h4 : x / d + -x / d ≤ 0 := by
    by_cases h : 0 < x / d + -x / d
    · have := Int.mul_pos (show 0 < d by omega) h; omega
    · omega
  omega
theorem sc_le {a b m d : Int} (hd : 1 ≤ d) (h : a ≤ b) : scX a b m d ≤ scY a b m d := by
  unfold scX scY
  split
  · have h1 : b * m ≤ a * m := by have := Int.mul_le_mul_of_nonpos_right h (show m ≤ 0 by omega); omega
    refine Int.le_trans (Int.ediv_le_ediv (by omega) h1) (floor_le_ceil _ _ hd)
  · have h1 : a * m ≤ b * m := Int.mul_le_mul_of_nonneg_right h (by omega)
    refine Int.le_trans (Int.ediv_le_ediv (by omega) h1) (floor_le_ceil _ _ hd)
theorem fit_yes {x y : Int} (h : okB x ∧ okB y) (hxy : x ≤ y) : rl x y = x ∧ rh x y = y ∧ re x y = 0 := by
  have e : rangeErr x y = 0 := (if_pos h).trans (if_pos hxy)
  unfold rl rh re
  rw [if_pos e, if_pos e, if_pos e]; exact ⟨rfl, rfl, rfl⟩
theorem fit_no {x y : Int} (h : ¬ (okB x ∧ okB y)) : rl x y = 0 ∧ rh x y = 0 ∧ re x y = 8 := by
  have e : ¬ rangeErr x y = 0 := by rw [show rangeErr x y = 2 from if_neg h]; omega
  unfold rl rh re
  rw [if_neg e, if_neg e, if_neg e]; exact ⟨rfl, rfl, rfl⟩
/-- Two products, each within 64 bits or not; the program's answer is scR. -/
theorem sc_fitting {a b m d x y : Int} (hd : 1 ≤ d) (hab : a ≤ b) (hx : x = scX a b m d) (hy : y = scY a b m d) : rangeT (rl x y) (rh x y) (re x y) = scR a b m d := by
  have hl := sc_le (m := m) hd hab
  subst hx hy
  unfold scR
  split
  · rename_i h; rw [(fit_yes h hl).1, (fit_yes h hl).2.1, (fit_yes h hl).2.2]
  · rename_i h; rw [(fit_no h).1, (fit_no h).2.1, (fit_no h).2.2]
theorem sc_far {a b m d : Int} (h : ¬ okB (scX a b m d) ∨ ¬ okB (scY a b m d)) : scR a b m d = rangeT 0 0 8 := if_neg fun hh => h.elim (fun h => h hh.1) fun h => h hh.2
set_option maxHeartbeats 1000000 in
set_option maxRecDepth 100000 in
theorem scaled_badr (a b m d E : Int) (w : World) (hE : rangeErr a b = E) (h0 : E ≠ 0) :
    Calls Try.prog 10 #[.agg #[.int .i64 a, .int .i64 b], .agg #[.int .i64 m, .int .i64 d]] w fun e w' => e = .returned (rangeT 0 0 E) ∧ Below w.heap.size w w' := by
  have HE := hide hE
  have b1 : (E != 0) = true := by rw [bne_iff_ne]; exact h0
  clear hE h0
  have L0 := hide (Lv.start w)
  go_enter Try.func10, Try.ntmps10
  go_wp2_with fail
  refine Lv.call (checkRange_any a b _) (((L0.out.put _ _).put _ _).put _ _) ?_
  intro w1 L1'
  have L1 := hide L1'
  have F1 := L1'.at
  clear L1'
  simp only [AllAt, CellsAt, updL, List.map, Nat.zero_add, Nat.reduceAdd, and_true, World.size_alloc, World.heap_drewN, heap_drew, size_set, Nat.add_eq_left, Nat.left_eq_add, Nat.add_right_cancel_iff, ne_up2, ne_dn2, ne_up3, ne_dn3, ne_up4, ne_dn4, Nat.reduceEqDiff, Nat.one_ne_zero, Nat.succ_ne_zero, Nat.zero_ne_one, reduceIte, List.set_cons_zero, List.set_cons_succ] at F1
  rw [HE.out]
  go_wp2
  refine bodyPost_ret (v := rangeT 0 0 E) (by simp [results, Try.results10, go_sem, F1, rangeT]) rfl ⟨rfl, ?_⟩
  repeat (first | (with_reducible exact L1.out.below) | refine Below.setCell ?_ (by first | omega | (simp; done) | (simp; omega)) _ | refine Below.alloc ?_ (by first | omega | (simp; done) | (simp; omega)) _ | refine below_drewN ?_ _ | refine Below.drew ?_)
set_option maxHeartbeats 1000000 in
set_option maxRecDepth 100000 in
theorem scaled_badf (a b m d E : Int) (w : World) (hm : -9223372036854775808 ≤ m ∧ m ≤ 9223372036854775807) (hd : -9223372036854775808 ≤ d ∧ d ≤ 9223372036854775807) (hR : rangeErr a b = 0) (hE : fracErr m d = E) (h0 : E ≠ 0) :
    Calls Try.prog 10 #[.agg #[.int .i64 a, .int .i64 b], .agg #[.int .i64 m, .int .i64 d]] w fun e w' => e = .returned (rangeT 0 0 E) ∧ Below w.heap.size w w' := by
  have HE := hide hE
  have HR := hide hR
  have b1 : (E != 0) = true := by rw [bne_iff_ne]; exact h0
  clear hE h0 hR
  have L0 := hide (Lv.start w)
  go_enter Try.func10, Try.ntmps10
  go_wp2_with fail
  refine Lv.call (checkRange_any a b _) (((L0.out.put _ _).put _ _).put _ _) ?_
  intro w1 L1'
  have L1 := hide L1'
  have F1 := L1'.at
  clear L1'
  simp only [AllAt, CellsAt, updL, List.map, Nat.zero_add, Nat.reduceAdd, and_true, World.size_alloc, World.heap_drewN, heap_drew, size_set, Nat.add_eq_left, Nat.left_eq_add, Nat.add_right_cancel_iff, ne_up2, ne_dn2, ne_up3, ne_dn3, ne_up4, ne_dn4, Nat.reduceEqDiff, Nat.one_ne_zero, Nat.succ_ne_zero, Nat.zero_ne_one, reduceIte, List.set_cons_zero, List.set_cons_succ] at F1
  rw [HR.out]
  go_wp2_with fail
  refine Lv.call (checkFrac_any m d _ hm hd) L1.out ?_
  intro w2 L2'
  have L2 := hide L2'
  have F2 := L2'.at
  clear L2' F1 L1
  simp only [AllAt, CellsAt, updL, List.map, Nat.zero_add, Nat.reduceAdd, and_true, World.size_alloc, World.heap_drewN, heap_drew, size_set, Nat.add_eq_left, Nat.left_eq_add, Nat.add_right_cancel_iff, ne_up2, ne_dn2, ne_up3, ne_dn3, ne_up4, ne_dn4, Nat.reduceEqDiff, Nat.one_ne_zero, Nat.succ_ne_zero, Nat.zero_ne_one, reduceIte, List.set_cons_zero, List.set_cons_succ] at F2
  rw [HE.out]
  go_wp2
  refine bodyPost_ret (v := rangeT 0 0 E) (by simp [results, Try.results10, go_sem, F2, rangeT]) rfl ⟨rfl, ?_⟩
  repeat (first | (with_reducible exact L2.out.below) | refine Below.setCell ?_ (by first | omega | (simp; done) | (simp; omega)) _ | refine Below.alloc ?_ (by first | omega | (simp; done) | (simp; omega)) _ | refine below_drewN ?_ _ | refine Below.drew ?_)
-- The four ways through Scaled for a valid range and a valid fraction: P, Q are the bounds in the order of their products.
set_option maxHeartbeats 4000000 in
set_option maxRecDepth 100000 in
theorem scaled_ok (a b m d : Int) (w : World) (hR : rangeErr a b = 0) (ha : okB a) (hb : okB b) (hab : a ≤ b) (hE : fracErr m d = 0) (hf : okF m d) :
    Calls Try.prog 10 #[.agg #[.int .i64 a, .int .i64 b], .agg #[.int .i64 m, .int .i64 d]] w fun e w' => e = .returned (scR a b m d) ∧ Below w.heap.size w w' := by
  have HE := hide hE
  have HR := hide hR
  obtain ⟨hlow, hm, hdm⟩ := hf
  have hd : 1 ≤ d ∧ d ≤ 1000000000 := ⟨hlow.1, hdm⟩
  unfold okB at ha hb
  clear hE hR hlow hdm
  by_cases hn : m < 0
  · have HM : Hid ((if m < 0 then b * m else a * m) = b * m) := if_pos hn
    have HM2 : Hid ((if m < 0 then a * m else b * m) = a * m) := if_pos hn
    have C1 := fun W => encProd_any b m d W (by omega) (by omega) (by omega)
    have C2 := fun W => encProd_any a m d W (by omega) (by omega) (by omega)
    by_cases h1 : (b).natAbs * m.natAbs / d.toNat ≤ 1000000000000000
    · rw [encR_yes h1] at C1
      have n1 := near_of hd.1 h1
      obtain ⟨x, hx⟩ : ∃ x, x = b * m / d := ⟨_, rfl⟩
      obtain ⟨x2, hx2⟩ : ∃ x, x = -(-(b * m) / d) := ⟨_, rfl⟩
      rw [← hx, ← hx2] at C1 n1
      by_cases h2 : (a).natAbs * m.natAbs / d.toNat ≤ 1000000000000000
      · rw [encR_yes h2] at C2
        have n2 := near_of hd.1 h2
        obtain ⟨y, hy⟩ : ∃ x, x = -(-(a * m) / d) := ⟨_, rfl⟩
        obtain ⟨y2, hy2⟩ : ∃ x, x = a * m / d := ⟨_, rfl⟩
        rw [← hy, ← hy2] at C2 n2
        have HQ := hide (sc_fitting (m := m) (x := x) (y := y) hd.1 hab (by unfold scX; rw [HM.out]; exact hx) (by unfold scY; rw [HM2.out]; exact hy))
        have H1 := hide C1
        have H2 := hide C2
        clear C1 C2 h1 h2 hx hx2 hy hy2 hab
        have L0 := hide (Lv.start w)
        go_enter Try.func10, Try.ntmps10
        go_wp2_with fail
        refine Lv.call (checkRange_any a b _) (((L0.out.put _ _).put _ _).put _ _) ?_
        intro w1 L1'
        have L1 := hide L1'
        have F1 := L1'.at
        clear L1'
        simp only [AllAt, CellsAt, updL, List.map, Nat.zero_add, Nat.reduceAdd, and_true, World.size_alloc, World.heap_drewN, heap_drew, size_set, Nat.add_eq_left, Nat.left_eq_add, Nat.add_right_cancel_iff, ne_up2, ne_dn2, ne_up3, ne_dn3, ne_up4, ne_dn4, Nat.reduceEqDiff, Nat.one_ne_zero, Nat.succ_ne_zero, Nat.zero_ne_one, reduceIte, List.set_cons_zero, List.set_cons_succ] at F1
        rw [HR.out]
        go_wp2_with fail
        refine Lv.call (checkFrac_any m d _ (by omega) (by omega)) L1.out ?_
        intro w2 L2'
        have L2 := hide L2'
        have F2 := L2'.at
        clear L2' F1
        simp only [AllAt, CellsAt, updL, List.map, Nat.zero_add, Nat.reduceAdd, and_true, World.size_alloc, World.heap_drewN, heap_drew, size_set, Nat.add_eq_left, Nat.left_eq_add, Nat.add_right_cancel_iff, ne_up2, ne_dn2, ne_up3, ne_dn3, ne_up4, ne_dn4, Nat.reduceEqDiff, Nat.one_ne_zero, Nat.succ_ne_zero, Nat.zero_ne_one, reduceIte, List.set_cons_zero, List.set_cons_succ] at F2
        rw [HE.out]
        go_wp2_with fail
        refine Lv.call (H1.out _) ((L2.out.set _ _ _ (by first | omega | (simp; done) | (simp; omega))).set _ _ _ (by first | omega | (simp; done) | (simp; omega))) ?_
        intro w3 L3'
        have L3 := hide L3'
        have F3 := L3'.at
        clear L3' F2
        simp only [AllAt, CellsAt, updL, List.map, Nat.zero_add, Nat.reduceAdd, and_true, World.size_alloc, World.heap_drewN, heap_drew, size_set, Nat.add_eq_left, Nat.left_eq_add, Nat.add_right_cancel_iff, ne_up2, ne_dn2, ne_up3, ne_dn3, ne_up4, ne_dn4, Nat.reduceEqDiff, Nat.one_ne_zero, Nat.succ_ne_zero, Nat.zero_ne_one, reduceIte, List.set_cons_zero, List.set_cons_succ] at F3
        go_wp2_with fail
        refine Lv.call (H2.out _) (L3.out.put _ _) ?_
        intro w4 L4'
        have L4 := hide L4'
        have F4 := L4'.at
        clear L4' F3
        simp only [AllAt, CellsAt, updL, List.map, Nat.zero_add, Nat.reduceAdd, and_true, World.size_alloc, World.heap_drewN, heap_drew, size_set, Nat.add_eq_left, Nat.left_eq_add, Nat.add_right_cancel_iff, ne_up2, ne_dn2, ne_up3, ne_dn3, ne_up4, ne_dn4, Nat.reduceEqDiff, Nat.one_ne_zero, Nat.succ_ne_zero, Nat.zero_ne_one, reduceIte, List.set_cons_zero, List.set_cons_succ] at F4
        go_wp2_with fail
        refine Lv.call (fitting_any x y _) (L4.out.put _ _) ?_
        intro w5 L5'
        have L5 := hide L5'
        have F5 := L5'.at
        clear L5' F4
        simp only [AllAt, CellsAt, updL, List.map, Nat.zero_add, Nat.reduceAdd, and_true, World.size_alloc, World.heap_drewN, heap_drew, size_set, Nat.add_eq_left, Nat.left_eq_add, Nat.add_right_cancel_iff, ne_up2, ne_dn2, ne_up3, ne_dn3, ne_up4, ne_dn4, Nat.reduceEqDiff, Nat.one_ne_zero, Nat.succ_ne_zero, Nat.zero_ne_one, reduceIte, List.set_cons_zero, List.set_cons_succ] at F5
        go_wp2
        refine bodyPost_ret (v := rangeT (rl x y) (rh x y) (re x y)) (by simp [results, Try.results10, go_sem, F5, rangeT]) rfl ⟨by rw [← HQ.out], ?_⟩
        repeat (first | (with_reducible exact L5.out.below) | refine Below.setCell ?_ (by first | omega | (simp; done) | (simp; omega)) _ | refine Below.alloc ?_ (by first | omega | (simp; done) | (simp; omega)) _ | refine below_drewN ?_ _ | refine Below.drew ?_)
      · rw [encR_no h2] at C2
        have HQ := hide (sc_far (a := a) (b := b) (m := m) (d := d) (Or.inr (by unfold scY; rw [HM2.out]; exact (far_of hd.1 h2).2)))
        have H1 := hide C1
        have H2 := hide C2
        clear C1 C2 h1 h2 hx hx2 hab
        have L0 := hide (Lv.start w)
        go_enter Try.func10, Try.ntmps10
        go_wp2_with fail
        refine Lv.call (checkRange_any a b _) (((L0.out.put _ _).put _ _).put _ _) ?_
        intro w1 L1'
        have L1 := hide L1'
        have F1 := L1'.at
        clear L1'
        simp only [AllAt, CellsAt, updL, List.map, Nat.zero_add, Nat.reduceAdd, and_true, World.size_alloc, World.heap_drewN, heap_drew, size_set, Nat.add_eq_left, Nat.left_eq_add, Nat.add_right_cancel_iff, ne_up2, ne_dn2, ne_up3, ne_dn3, ne_up4, ne_dn4, Nat.reduceEqDiff, Nat.one_ne_zero, Nat.succ_ne_zero, Nat.zero_ne_one, reduceIte, List.set_cons_zero, List.set_cons_succ] at F1
        rw [HR.out]
        go_wp2_with fail
        refine Lv.call (checkFrac_any m d _ (by omega) (by omega)) L1.out ?_
        intro w2 L2'
        have L2 := hide L2'
        have F2 := L2'.at
        clear L2' F1
        simp only [AllAt, CellsAt, updL, List.map, Nat.zero_add, Nat.reduceAdd, and_true, World.size_alloc, World.heap_drewN, heap_drew, size_set, Nat.add_eq_left, Nat.left_eq_add, Nat.add_right_cancel_iff, ne_up2, ne_dn2, ne_up3, ne_dn3, ne_up4, ne_dn4, Nat.reduceEqDiff, Nat.one_ne_zero, Nat.succ_ne_zero, Nat.zero_ne_one, reduceIte, List.set_cons_zero, List.set_cons_succ] at F2
        rw [HE.out]
        go_wp2_with fail
        refine Lv.call (H1.out _) ((L2.out.set _ _ _ (by first | omega | (simp; done) | (simp; omega))).set _ _ _ (by first | omega | (simp; done) | (simp; omega))) ?_
        intro w3 L3'
        have L3 := hide L3'
        have F3 := L3'.at
        clear L3' F2
        simp only [AllAt, CellsAt, updL, List.map, Nat.zero_add, Nat.reduceAdd, and_true, World.size_alloc, World.heap_drewN, heap_drew, size_set, Nat.add_eq_left, Nat.left_eq_add, Nat.add_right_cancel_iff, ne_up2, ne_dn2, ne_up3, ne_dn3, ne_up4, ne_dn4, Nat.reduceEqDiff, Nat.one_ne_zero, Nat.succ_ne_zero, Nat.zero_ne_one, reduceIte, List.set_cons_zero, List.set_cons_succ] at F3
        go_wp2_with fail
        refine Lv.call (H2.out _) (L3.out.put _ _) ?_
        intro w4 L4'
        have L4 := hide L4'
        have F4 := L4'.at
        clear L4' F3
        simp only [AllAt, CellsAt, updL, List.map, Nat.zero_add, Nat.reduceAdd, and_true, World.size_alloc, World.heap_drewN, heap_drew, size_set, Nat.add_eq_left, Nat.left_eq_add, Nat.add_right_cancel_iff, ne_up2, ne_dn2, ne_up3, ne_dn3, ne_up4, ne_dn4, Nat.reduceEqDiff, Nat.one_ne_zero, Nat.succ_ne_zero, Nat.zero_ne_one, reduceIte, List.set_cons_zero, List.set_cons_succ] at F4
        go_wp2
        refine bodyPost_ret (v := rangeT 0 0 8) (by simp [results, Try.results10, go_sem, F4, rangeT]) rfl ⟨by rw [HQ.out], ?_⟩
        repeat (first | (with_reducible exact L4.out.below) | refine Below.setCell ?_ (by first | omega | (simp; done) | (simp; omega)) _ | refine Below.alloc ?_ (by first | omega | (simp; done) | (simp; omega)) _ | refine below_drewN ?_ _ | refine Below.drew ?_)
    · rw [encR_no h1] at C1
      have HQ := hide (sc_far (a := a) (b := b) (m := m) (d := d) (Or.inl (by unfold scX; rw [HM.out]; exact (far_of hd.1 h1).1)))
      have C2' : ∃ x y t, ∀ W, Calls Try.prog 36 #[.int .i64 (a), .agg #[.int .i64 m, .int .i64 d]] W fun e w' => e = .returned (.tuple #[.agg #[.int .i64 x, .int .i64 y], .bool t]) ∧ Below W.heap.size W w' := by
        by_cases h2 : (a).natAbs * m.natAbs / d.toNat ≤ 1000000000000000
        · rw [encR_yes h2] at C2; exact ⟨_, _, _, C2⟩
        · rw [encR_no h2] at C2; exact ⟨_, _, _, C2⟩
      obtain ⟨x, y, t, C3⟩ := C2'
      have H1 := hide C1
      have H2 := hide C3
      clear C1 C2 C3 h1 hab
      have L0 := hide (Lv.start w)
      go_enter Try.func10, Try.ntmps10
      go_wp2_with fail
      refine Lv.call (checkRange_any a b _) (((L0.out.put _ _).put _ _).put _ _) ?_
      intro w1 L1'
      have L1 := hide L1'
      have F1 := L1'.at
      clear L1'
      simp only [AllAt, CellsAt, updL, List.map, Nat.zero_add, Nat.reduceAdd, and_true, World.size_alloc, World.heap_drewN, heap_drew, size_set, Nat.add_eq_left, Nat.left_eq_add, Nat.add_right_cancel_iff, ne_up2, ne_dn2, ne_up3, ne_dn3, ne_up4, ne_dn4, Nat.reduceEqDiff, Nat.one_ne_zero, Nat.succ_ne_zero, Nat.zero_ne_one, reduceIte, List.set_cons_zero, List.set_cons_succ] at F1
      rw [HR.out]
      go_wp2_with fail
      refine Lv.call (checkFrac_any m d _ (by omega) (by omega)) L1.out ?_
      intro w2 L2'
      have L2 := hide L2'
      have F2 := L2'.at
      clear L2' F1
      simp only [AllAt, CellsAt, updL, List.map, Nat.zero_add, Nat.reduceAdd, and_true, World.size_alloc, World.heap_drewN, heap_drew, size_set, Nat.add_eq_left, Nat.left_eq_add, Nat.add_right_cancel_iff, ne_up2, ne_dn2, ne_up3, ne_dn3, ne_up4, ne_dn4, Nat.reduceEqDiff, Nat.one_ne_zero, Nat.succ_ne_zero, Nat.zero_ne_one, reduceIte, List.set_cons_zero, List.set_cons_succ] at F2
      rw [HE.out]
      go_wp2_with fail
      refine Lv.call (H1.out _) ((L2.out.set _ _ _ (by first | omega | (simp; done) | (simp; omega))).set _ _ _ (by first | omega | (simp; done) | (simp; omega))) ?_
      intro w3 L3'
      have L3 := hide L3'
      have F3 := L3'.at
      clear L3' F2
      simp only [AllAt, CellsAt, updL, List.map, Nat.zero_add, Nat.reduceAdd, and_true, World.size_alloc, World.heap_drewN, heap_drew, size_set, Nat.add_eq_left, Nat.left_eq_add, Nat.add_right_cancel_iff, ne_up2, ne_dn2, ne_up3, ne_dn3, ne_up4, ne_dn4, Nat.reduceEqDiff, Nat.one_ne_zero, Nat.succ_ne_zero, Nat.zero_ne_one, reduceIte, List.set_cons_zero, List.set_cons_succ] at F3
      go_wp2_with fail
      refine Lv.call (H2.out _) (L3.out.put _ _) ?_
      intro w4 L4'
      have L4 := hide L4'
      have F4 := L4'.at
      clear L4' F3
      simp only [AllAt, CellsAt, updL, List.map, Nat.zero_add, Nat.reduceAdd, and_true, World.size_alloc, World.heap_drewN, heap_drew, size_set, Nat.add_eq_left, Nat.left_eq_add, Nat.add_right_cancel_iff, ne_up2, ne_dn2, ne_up3, ne_dn3, ne_up4, ne_dn4, Nat.reduceEqDiff, Nat.one_ne_zero, Nat.succ_ne_zero, Nat.zero_ne_one, reduceIte, List.set_cons_zero, List.set_cons_succ] at F4
      go_wp2
      refine bodyPost_ret (v := rangeT 0 0 8) (by simp [results, Try.results10, go_sem, F4, rangeT]) rfl ⟨by rw [HQ.out], ?_⟩
      repeat (first | (with_reducible exact L4.out.below) | refine Below.setCell ?_ (by first | omega | (simp; done) | (simp; omega)) _ | refine Below.alloc ?_ (by first | omega | (simp; done) | (simp; omega)) _ | refine below_drewN ?_ _ | refine Below.drew ?_)
  · have HM : Hid ((if m < 0 then b * m else a * m) = a * m) := if_neg hn
    have HM2 : Hid ((if m < 0 then a * m else b * m) = b * m) := if_neg hn
    have C1 := fun W => encProd_any a m d W (by omega) (by omega) (by omega)
    have C2 := fun W => encProd_any b m d W (by omega) (by omega) (by omega)
    by_cases h1 : (a).natAbs * m.natAbs / d.toNat ≤ 1000000000000000
    · rw [encR_yes h1] at C1
      have n1 := near_of hd.1 h1
      obtain ⟨x, hx⟩ : ∃ x, x = a * m / d := ⟨_, rfl⟩
      obtain ⟨x2, hx2⟩ : ∃ x, x = -(-(a * m) / d) := ⟨_, rfl⟩
      rw [← hx, ← hx2] at C1 n1
      by_cases h2 : (b).natAbs * m.natAbs / d.toNat ≤ 1000000000000000
      · rw [encR_yes h2] at C2
        have n2 := near_of hd.1 h2
        obtain ⟨y, hy⟩ : ∃ x, x = -(-(b * m) / d) := ⟨_, rfl⟩
        obtain ⟨y2, hy2⟩ : ∃ x, x = b * m / d := ⟨_, rfl⟩
        rw [← hy, ← hy2] at C2 n2
        have HQ := hide (sc_fitting (m := m) (x := x) (y := y) hd.1 hab (by unfold scX; rw [HM.out]; exact hx) (by unfold scY; rw [HM2.out]; exact hy))
        have H1 := hide C1
        have H2 := hide C2
        clear C1 C2 h1 h2 hx hx2 hy hy2 hab
        have L0 := hide (Lv.start w)
        go_enter Try.func10, Try.ntmps10
        go_wp2_with fail
        refine Lv.call (checkRange_any a b _) (((L0.out.put _ _).put _ _).put _ _) ?_
        intro w1 L1'
        have L1 := hide L1'
        have F1 := L1'.at
        clear L1'
        simp only [AllAt, CellsAt, updL, List.map, Nat.zero_add, Nat.reduceAdd, and_true, World.size_alloc, World.heap_drewN, heap_drew, size_set, Nat.add_eq_left, Nat.left_eq_add, Nat.add_right_cancel_iff, ne_up2, ne_dn2, ne_up3, ne_dn3, ne_up4, ne_dn4, Nat.reduceEqDiff, Nat.one_ne_zero, Nat.succ_ne_zero, Nat.zero_ne_one, reduceIte, List.set_cons_zero, List.set_cons_succ] at F1
        rw [HR.out]
        go_wp2_with fail
        refine Lv.call (checkFrac_any m d _ (by omega) (by omega)) L1.out ?_
        intro w2 L2'
        have L2 := hide L2'
        have F2 := L2'.at
        clear L2' F1
        simp only [AllAt, CellsAt, updL, List.map, Nat.zero_add, Nat.reduceAdd, and_true, World.size_alloc, World.heap_drewN, heap_drew, size_set, Nat.add_eq_left, Nat.left_eq_add, Nat.add_right_cancel_iff, ne_up2, ne_dn2, ne_up3, ne_dn3, ne_up4, ne_dn4, Nat.reduceEqDiff, Nat.one_ne_zero, Nat.succ_ne_zero, Nat.zero_ne_one, reduceIte, List.set_cons_zero, List.set_cons_succ] at F2
        rw [HE.out]
        go_wp2_with fail
        refine Lv.call (H1.out _) L2.out ?_
        intro w3 L3'
        have L3 := hide L3'
        have F3 := L3'.at
        clear L3' F2
        simp only [AllAt, CellsAt, updL, List.map, Nat.zero_add, Nat.reduceAdd, and_true, World.size_alloc, World.heap_drewN, heap_drew, size_set, Nat.add_eq_left, Nat.left_eq_add, Nat.add_right_cancel_iff, ne_up2, ne_dn2, ne_up3, ne_dn3, ne_up4, ne_dn4, Nat.reduceEqDiff, Nat.one_ne_zero, Nat.succ_ne_zero, Nat.zero_ne_one, reduceIte, List.set_cons_zero, List.set_cons_succ] at F3
        go_wp2_with fail
        refine Lv.call (H2.out _) (L3.out.put _ _) ?_
        intro w4 L4'
        have L4 := hide L4'
        have F4 := L4'.at
        clear L4' F3
        simp only [AllAt, CellsAt, updL, List.map, Nat.zero_add, Nat.reduceAdd, and_true, World.size_alloc, World.heap_drewN, heap_drew, size_set, Nat.add_eq_left, Nat.left_eq_add, Nat.add_right_cancel_iff, ne_up2, ne_dn2, ne_up3, ne_dn3, ne_up4, ne_dn4, Nat.reduceEqDiff, Nat.one_ne_zero, Nat.succ_ne_zero, Nat.zero_ne_one, reduceIte, List.set_cons_zero, List.set_cons_succ] at F4
        go_wp2_with fail
        refine Lv.call (fitting_any x y _) (L4.out.put _ _) ?_
        intro w5 L5'
        have L5 := hide L5'
        have F5 := L5'.at
        clear L5' F4
        simp only [AllAt, CellsAt, updL, List.map, Nat.zero_add, Nat.reduceAdd, and_true, World.size_alloc, World.heap_drewN, heap_drew, size_set, Nat.add_eq_left, Nat.left_eq_add, Nat.add_right_cancel_iff, ne_up2, ne_dn2, ne_up3, ne_dn3, ne_up4, ne_dn4, Nat.reduceEqDiff, Nat.one_ne_zero, Nat.succ_ne_zero, Nat.zero_ne_one, reduceIte, List.set_cons_zero, List.set_cons_succ] at F5
        go_wp2
        refine bodyPost_ret (v := rangeT (rl x y) (rh x y) (re x y)) (by simp [results, Try.results10, go_sem, F5, rangeT]) rfl ⟨by rw [← HQ.out], ?_⟩
        repeat (first | (with_reducible exact L5.out.below) | refine Below.setCell ?_ (by first | omega | (simp; done) | (simp; omega)) _ | refine Below.alloc ?_ (by first | omega | (simp; done) | (simp; omega)) _ | refine below_drewN ?_ _ | refine Below.drew ?_)
      · rw [encR_no h2] at C2
        have HQ := hide (sc_far (a := a) (b := b) (m := m) (d := d) (Or.inr (by unfold scY; rw [HM2.out]; exact (far_of hd.1 h2).2)))
        have H1 := hide C1
        have H2 := hide C2
        clear C1 C2 h1 h2 hx hx2 hab
        have L0 := hide (Lv.start w)
        go_enter Try.func10, Try.ntmps10
        go_wp2_with fail
        refine Lv.call (checkRange_any a b _) (((L0.out.put _ _).put _ _).put _ _) ?_
        intro w1 L1'
        have L1 := hide L1'
        have F1 := L1'.at
        clear L1'
        simp only [AllAt, CellsAt, updL, List.map, Nat.zero_add, Nat.reduceAdd, and_true, World.size_alloc, World.heap_drewN, heap_drew, size_set, Nat.add_eq_left, Nat.left_eq_add, Nat.add_right_cancel_iff, ne_up2, ne_dn2, ne_up3, ne_dn3, ne_up4, ne_dn4, Nat.reduceEqDiff, Nat.one_ne_zero, Nat.succ_ne_zero, Nat.zero_ne_one, reduceIte, List.set_cons_zero, List.set_cons_succ] at F1
        rw [HR.out]
        go_wp2_with fail
        refine Lv.call (checkFrac_any m d _ (by omega) (by omega)) L1.out ?_
        intro w2 L2'
        have L2 := hide L2'
        have F2 := L2'.at
        clear L2' F1
        simp only [AllAt, CellsAt, updL, List.map, Nat.zero_add, Nat.reduceAdd, and_true, World.size_alloc, World.heap_drewN, heap_drew, size_set, Nat.add_eq_left, Nat.left_eq_add, Nat.add_right_cancel_iff, ne_up2, ne_dn2, ne_up3, ne_dn3, ne_up4, ne_dn4, Nat.reduceEqDiff, Nat.one_ne_zero, Nat.succ_ne_zero, Nat.zero_ne_one, reduceIte, List.set_cons_zero, List.set_cons_succ] at F2
        rw [HE.out]
        go_wp2_with fail
        refine Lv.call (H1.out _) L2.out ?_
        intro w3 L3'
        have L3 := hide L3'
        have F3 := L3'.at
        clear L3' F2
        simp only [AllAt, CellsAt, updL, List.map, Nat.zero_add, Nat.reduceAdd, and_true, World.size_alloc, World.heap_drewN, heap_drew, size_set, Nat.add_eq_left, Nat.left_eq_add, Nat.add_right_cancel_iff, ne_up2, ne_dn2, ne_up3, ne_dn3, ne_up4, ne_dn4, Nat.reduceEqDiff, Nat.one_ne_zero, Nat.succ_ne_zero, Nat.zero_ne_one, reduceIte, List.set_cons_zero, List.set_cons_succ] at F3
        go_wp2_with fail
        refine Lv.call (H2.out _) (L3.out.put _ _) ?_
        intro w4 L4'
        have L4 := hide L4'
        have F4 := L4'.at
        clear L4' F3
        simp only [AllAt, CellsAt, updL, List.map, Nat.zero_add, Nat.reduceAdd, and_true, World.size_alloc, World.heap_drewN, heap_drew, size_set, Nat.add_eq_left, Nat.left_eq_add, Nat.add_right_cancel_iff, ne_up2, ne_dn2, ne_up3, ne_dn3, ne_up4, ne_dn4, Nat.reduceEqDiff, Nat.one_ne_zero, Nat.succ_ne_zero, Nat.zero_ne_one, reduceIte, List.set_cons_zero, List.set_cons_succ] at F4
        go_wp2
        refine bodyPost_ret (v := rangeT 0 0 8) (by simp [results, Try.results10, go_sem, F4, rangeT]) rfl ⟨by rw [HQ.out], ?_⟩
        repeat (first | (with_reducible exact L4.out.below) | refine Below.setCell ?_ (by first | omega | (simp; done) | (simp; omega)) _ | refine Below.alloc ?_ (by first | omega | (simp; done) | (simp; omega)) _ | refine below_drewN ?_ _ | refine Below.drew ?_)
    · rw [encR_no h1] at C1
      have HQ := hide (sc_far (a := a) (b := b) (m := m) (d := d) (Or.inl (by unfold scX; rw [HM.out]; exact (far_of hd.1 h1).1)))
      have C2' : ∃ x y t, ∀ W, Calls Try.prog 36 #[.int .i64 (b), .agg #[.int .i64 m, .int .i64 d]] W fun e w' => e = .returned (.tuple #[.agg #[.int .i64 x, .int .i64 y], .bool t]) ∧ Below W.heap.size W w' := by
        by_cases h2 : (b).natAbs * m.natAbs / d.toNat ≤ 1000000000000000
        · rw [encR_yes h2] at C2; exact ⟨_, _, _, C2⟩
        · rw [encR_no h2] at C2; exact ⟨_, _, _, C2⟩
      obtain ⟨x, y, t, C3⟩ := C2'
      have H1 := hide C1
      have H2 := hide C3
      clear C1 C2 C3 h1 hab
      have L0 := hide (Lv.start w)
      go_enter Try.func10, Try.ntmps10
      go_wp2_with fail
      refine Lv.call (checkRange_any a b _) (((L0.out.put _ _).put _ _).put _ _) ?_
      intro w1 L1'
      have L1 := hide L1'
      have F1 := L1'.at
      clear L1'
      simp only [AllAt, CellsAt, updL, List.map, Nat.zero_add, Nat.reduceAdd, and_true, World.size_alloc, World.heap_drewN, heap_drew, size_set, Nat.add_eq_left, Nat.left_eq_add, Nat.add_right_cancel_iff, ne_up2, ne_dn2, ne_up3, ne_dn3, ne_up4, ne_dn4, Nat.reduceEqDiff, Nat.one_ne_zero, Nat.succ_ne_zero, Nat.zero_ne_one, reduceIte, List.set_cons_zero, List.set_cons_succ] at F1
      rw [HR.out]
      go_wp2_with fail
      refine Lv.call (checkFrac_any m d _ (by omega) (by omega)) L1.out ?_
      intro w2 L2'
      have L2 := hide L2'
      have F2 := L2'.at
      clear L2' F1
      simp only [AllAt, CellsAt, updL, List.map, Nat.zero_add, Nat.reduceAdd, and_true, World.size_alloc, World.heap_drewN, heap_drew, size_set, Nat.add_eq_left, Nat.left_eq_add, Nat.add_right_cancel_iff, ne_up2, ne_dn2, ne_up3, ne_dn3, ne_up4, ne_dn4, Nat.reduceEqDiff, Nat.one_ne_zero, Nat.succ_ne_zero, Nat.zero_ne_one, reduceIte, List.set_cons_zero, List.set_cons_succ] at F2
      rw [HE.out]
      go_wp2_with fail
      refine Lv.call (H1.out _) L2.out ?_
      intro w3 L3'
      have L3 := hide L3'
      have F3 := L3'.at
      clear L3' F2
      simp only [AllAt, CellsAt, updL, List.map, Nat.zero_add, Nat.reduceAdd, and_true, World.size_alloc, World.heap_drewN, heap_drew, size_set, Nat.add_eq_left, Nat.left_eq_add, Nat.add_right_cancel_iff, ne_up2, ne_dn2, ne_up3, ne_dn3, ne_up4, ne_dn4, Nat.reduceEqDiff, Nat.one_ne_zero, Nat.succ_ne_zero, Nat.zero_ne_one, reduceIte, List.set_cons_zero, List.set_cons_succ] at F3
      go_wp2_with fail
      refine Lv.call (H2.out _) (L3.out.put _ _) ?_
      intro w4 L4'
      have L4 := hide L4'
      have F4 := L4'.at
      clear L4' F3
      simp only [AllAt, CellsAt, updL, List.map, Nat.zero_add, Nat.reduceAdd, and_true, World.size_alloc, World.heap_drewN, heap_drew, size_set, Nat.add_eq_left, Nat.left_eq_add, Nat.add_right_cancel_iff, ne_up2, ne_dn2, ne_up3, ne_dn3, ne_up4, ne_dn4, Nat.reduceEqDiff, Nat.one_ne_zero, Nat.succ_ne_zero, Nat.zero_ne_one, reduceIte, List.set_cons_zero, List.set_cons_succ] at F4
      go_wp2
      refine bodyPost_ret (v := rangeT 0 0 8) (by simp [results, Try.results10, go_sem, F4, rangeT]) rfl ⟨by rw [HQ.out], ?_⟩
      repeat (first | (with_reducible exact L4.out.below) | refine Below.setCell ?_ (by first | omega | (simp; done) | (simp; omega)) _ | refine Below.alloc ?_ (by first | omega | (simp; done) | (simp; omega)) _ | refine below_drewN ?_ _ | refine Below.drew ?_)
end Go.Proofs.Ytnilfacofikoaaa
