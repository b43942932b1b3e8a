/- Contracts of agrafferef03.Minus, component, PullOf. Every bound is a premise of the theorem that bears it. -/
import Derived.Test.YtdhbjklbgdnfmaaPlPullK
import Derived.Test.YtdhbjklbgdnfmaaPlRefB
import Derived.Test.YtdhbjklbgdnfmaaPlRef
namespace Go.Proofs.Ytdhbjklbgdnfmaa
open Go.RowKit
set_option linter.unusedVariables false
set_option linter.unusedSimpArgs false

set_option maxHeartbeats 4000000 in
set_option maxRecDepth 100000 in
theorem refPlace_any (x y z : Int) (w : World) :
    Calls Try.prog 33 #[.agg #[.int .i64 x, .int .i64 y, .int .i64 z]] w fun e w' => e = .returned (.bool (inV x y z 1000000)) ∧ Below w.heap.size w w' := by
  have L0 := hide (Lv.start w)
  go_enter Try.func33, Try.ntmps33
  go_wp2_with fail
  refine Lv.call (refSize_any x y z 1000000 _ (by omega)) (L0.out.put _ _) ?_
  intro w1 L1'
  have L1 := hide L1'
  have F1 := L1'.at
  clear L1'
  simp only [AllAt, CellsAt, updL, List.map, Nat.zero_add, Nat.reduceAdd, and_true, World.size_alloc, World.heap_drewN, heap_drew, size_set, Nat.add_eq_left, Nat.left_eq_add, Nat.add_right_cancel_iff, ne_up2, ne_dn2, ne_up3, ne_dn3, ne_up4, ne_dn4, Nat.reduceEqDiff, Nat.one_ne_zero, Nat.succ_ne_zero, Nat.zero_ne_one, reduceIte, List.set_cons_zero, List.set_cons_succ] at F1
  go_wp2
  go_ret
  refine ⟨rfl, ?_⟩
  repeat (first | (with_reducible exact L1.out.below) | refine Below.setCell ?_ (by first | omega | (simp; done) | (simp; omega)) _ | refine Below.alloc ?_ (by first | omega | (simp; done) | (simp; omega)) _ | refine below_drewN ?_ _ | refine Below.drew ?_)
set_option maxHeartbeats 4000000 in
set_option maxRecDepth 100000 in
theorem refMinus_any (a b c x y z u v t : Int) (w : World) (hu : IntKind.i64.wrap (a - x) = u) (hv : IntKind.i64.wrap (b - y) = v) (ht : IntKind.i64.wrap (c - z) = t) :
    Calls Try.prog 36 #[.agg #[.int .i64 a, .int .i64 b, .int .i64 c], .agg #[.int .i64 x, .int .i64 y, .int .i64 z]] w fun e w' => e = .returned (.agg #[.int .i64 u, .int .i64 v, .int .i64 t]) ∧ Below w.heap.size w w' := by
  go_enter Try.func36, Try.ntmps36
  go_wp2
  first | (refine bodyPost_ret (v := .agg #[.int .i64 u, .int .i64 v, .int .i64 t]) (by simp [results, Try.results36, go_sem]) rfl ⟨rfl, ?_⟩) | (go_quiet (fail); go_wp2; refine bodyPost_ret (v := .agg #[.int .i64 u, .int .i64 v, .int .i64 t]) (by simp [results, Try.results36, go_sem]) rfl ⟨rfl, ?_⟩) | fail
  repeat (first | exact Below.refl _ _ | refine Below.setCell ?_ (by simp) _ | refine Below.alloc ?_ (by first | omega | (simp; done) | (simp; omega)) _ | refine below_drewN ?_ _ | refine Below.drew ?_)
theorem comp_zero (p q s u : Int) (hs : 1 ≤ s) (hu : 1 ≤ u) : cmpL p q 0 s u = 0 ∧ cmpH p q 0 s u = 0 := by
  unfold cmpL cmpH
  simp
set_option maxHeartbeats 4000000 in
set_option maxRecDepth 100000 in
theorem refComp_zero (p q s u : Int) (w : World) (hs : 1 ≤ s) (hu : 1 ≤ u) :
    Calls Try.prog 86 #[.agg #[.int .i64 p, .int .i64 q], .int .i64 0, .agg #[.int .i64 s, .int .i64 u]] w fun e w' => e = .returned (.agg #[.int .i64 (cmpL p q 0 s u), .int .i64 (cmpH p q 0 s u)]) ∧ Below w.heap.size w w' := by
  obtain ⟨e1, e2⟩ := comp_zero p q s u hs hu
  rw [e1, e2]
  clear e1 e2
  go_enter Try.func86, Try.ntmps86
  go_wp2
  refine bodyPost_ret (v := .agg #[.int .i64 0, .int .i64 0]) (by simp [results, Try.results86, go_sem]) rfl ⟨rfl, ?_⟩
  repeat (first | exact Below.refl _ _ | refine Below.setCell ?_ (by simp) _ | refine Below.alloc ?_ (by first | omega | (simp; done) | (simp; omega)) _ | refine below_drewN ?_ _ | refine Below.drew ?_)
set_option maxHeartbeats 4000000 in
set_option maxRecDepth 100000 in
theorem refComp_pos (p q d s u : Int) (w : World) (hp : 0 ≤ p ∧ p ≤ 10000000000) (hq : 0 ≤ q ∧ q ≤ 10000000000) (hd : 1 ≤ d ∧ d ≤ 1000000) (hs : 1 ≤ s ∧ s ≤ 1000000000000) (hu : 1 ≤ u ∧ u ≤ 1000000000000) :
    Calls Try.prog 86 #[.agg #[.int .i64 p, .int .i64 q], .int .i64 d, .agg #[.int .i64 s, .int .i64 u]] w fun e w' => e = .returned (.agg #[.int .i64 ((100 * p * d) / u), .int .i64 (-((-(100 * q * d)) / s))]) ∧ Below w.heap.size w w' := by
  obtain ⟨p0, p1⟩ := prod3 hp (show 0 ≤ d ∧ d ≤ 1000000 by omega)
  obtain ⟨q0, q1⟩ := prod3 hq (show 0 ≤ d ∧ d ≤ 1000000 by omega)
  have W1 : IntKind.i64.wrap (100 * p) = 100 * p := by rw [IntKind.wrap_i64]; omega
  have W2 : IntKind.i64.wrap (100 * q) = 100 * q := by rw [IntKind.wrap_i64]; omega
  have W3 : IntKind.i64.wrap (100 * p * d) = 100 * p * d := by rw [IntKind.wrap_i64]; omega
  have W4 : IntKind.i64.wrap (100 * q * d) = 100 * q * d := by rw [IntKind.wrap_i64]; omega
  have b0 : ((d : Int) == 0) = false := by rw [beq_eq_false_iff_ne]; omega
  have hd2 : ¬ d < 0 := by omega
  have C1 := hide (fun W => floor_any (100 * p * d) u W (by omega) (by omega) hu.1 (by omega))
  have C2 := hide (fun W => ceil_any (100 * q * d) s W (by omega) (by omega) hs.1 (by omega))
  go_enter Try.func86, Try.ntmps86
  go_wp2
  (first | (go_region_held3 (fun w' => w'.cell? ⟨w.heap.size, 0, none⟩ = some (.int .i64 p) ∧ w'.cell? ⟨w.heap.size, 1, none⟩ = some (.int .i64 q) ∧ w'.cell? ⟨w.heap.size + 1, 0, none⟩ = some (.int .i64 s) ∧ w'.cell? ⟨w.heap.size + 1, 1, none⟩ = some (.int .i64 u)) (go_keep) (first | (go_at_call 107; refine (C1.out _).mono ?_; rintro e w' ⟨rfl, rfl⟩) | (go_at_call 124; refine (C2.out _).mono ?_; rintro e w' ⟨rfl, rfl⟩) | fail)) | fail)
  all_goals
    go_wp2
    refine bodyPost_ret (v := .agg #[.int .i64 ((100 * p * d) / u), .int .i64 (-((-(100 * q * d)) / s))]) (by simp [results, Try.results86, go_sem]) rfl ⟨rfl, ?_⟩
    repeat (first | exact Below.refl _ _ | refine Below.setCell ?_ (by simp) _ | refine Below.alloc ?_ (by first | omega | (simp; done) | (simp; omega)) _ | refine below_drewN ?_ _ | refine Below.drew ?_)
set_option maxHeartbeats 4000000 in
set_option maxRecDepth 100000 in
theorem refComp_any (p q d s u : Int) (w : World) (hp : 0 ≤ p ∧ p ≤ 10000000000) (hq : 0 ≤ q ∧ q ≤ 10000000000) (hd : -1000000 ≤ d ∧ d ≤ 1000000) (hs : 1 ≤ s ∧ s ≤ 1000000000000) (hu : 1 ≤ u ∧ u ≤ 1000000000000) :
    Calls Try.prog 86 #[.agg #[.int .i64 p, .int .i64 q], .int .i64 d, .agg #[.int .i64 s, .int .i64 u]] w fun e w' => e = .returned (.agg #[.int .i64 (cmpL p q d s u), .int .i64 (cmpH p q d s u)]) ∧ Below w.heap.size w w' := by
  rcases Int.lt_trichotomy d 0 with hn | rfl | hn
  · have e1 : cmpL p q d s u = -(-((-(100 * q * -d)) / s)) := if_pos hn
    have e2 : cmpH p q d s u = -((100 * p * -d) / u) := if_pos hn
    rw [e1, e2]
    clear e1 e2
    have C := hide (fun W => refComp_pos p q (-d) s u W hp hq (by omega) hs hu)
    obtain ⟨p0, p1⟩ := prod3 hp (show 0 ≤ -d ∧ -d ≤ 1000000 by omega)
    obtain ⟨q0, q1⟩ := prod3 hq (show 0 ≤ -d ∧ -d ≤ 1000000 by omega)
    have b1 := ediv_bounds (n := 100 * p * -d) (m := u) (B := 1000000000000000000) hu.1 (by omega) (by omega) (by omega)
    have b2 := ediv_bounds (n := -(100 * q * -d)) (m := s) (B := 1000000000000000000) hs.1 (by omega) (by omega) (by omega)
    have b0 : ((d : Int) == 0) = false := by rw [beq_eq_false_iff_ne]; omega
    obtain ⟨x, hx⟩ : ∃ x, x = (100 * p * -d) / u := ⟨_, rfl⟩
    obtain ⟨y, hy⟩ : ∃ x, x = (-(100 * q * -d)) / s := ⟨_, rfl⟩
    rw [← hx] at C b1 ⊢
    rw [← hy] at C b2 ⊢
    clear hx hy p0 p1 q0 q1
    have L0 := hide (Lv.start w)
    go_enter Try.func86, Try.ntmps86
    go_wp2_with fail
    refine Lv.call (C.out _) (((L0.out.put _ _).put _ _).put _ _) ?_
    intro w1 L1'
    have L1 := hide L1'
    have F1 := L1'.at
    clear L1'
    simp only [AllAt, CellsAt, updL, List.map, Nat.zero_add, Nat.reduceAdd, and_true, World.size_alloc, World.heap_drewN, heap_drew, size_set, Nat.add_eq_left, Nat.left_eq_add, Nat.add_right_cancel_iff, ne_up2, ne_dn2, ne_up3, ne_dn3, ne_up4, ne_dn4, Nat.reduceEqDiff, Nat.one_ne_zero, Nat.succ_ne_zero, Nat.zero_ne_one, reduceIte, List.set_cons_zero, List.set_cons_succ] at F1
    go_wp2
    refine bodyPost_ret (v := .agg #[.int .i64 (- -y), .int .i64 (-x)]) (by simp [results, Try.results86, go_sem, F1]) rfl ⟨rfl, ?_⟩
    repeat (first | (with_reducible exact L1.out.below) | refine Below.setCell ?_ (by first | omega | (simp; done) | (simp; omega)) _ | refine Below.alloc ?_ (by first | omega | (simp; done) | (simp; omega)) _ | refine below_drewN ?_ _ | refine Below.drew ?_)
  · exact refComp_zero p q s u w hs.1 hu.1
  · have e1 : cmpL p q d s u = (100 * p * d) / u := if_neg (by omega)
    have e2 : cmpH p q d s u = -((-(100 * q * d)) / s) := if_neg (by omega)
    rw [e1, e2]
    exact refComp_pos p q d s u w hp hq (by omega) hs hu
end Go.Proofs.Ytdhbjklbgdnfmaa
