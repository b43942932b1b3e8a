/- Contracts of agrafferef03.size, IsPlace, Minus. Every bound is a premise of the theorem that bears it. -/
import Derived.Test.YtjfcjclhbnmgcaaPlChk
import Derived.Handy
namespace Go.Proofs.Ytjfcjclhbnmgcaa
open Go.RowKit
set_option linter.unusedVariables false
set_option linter.unusedSimpArgs false

theorem inB_R (x m : Int) : inR x (-m) m = inB x m := rfl
set_option maxHeartbeats 4000000 in
set_option maxRecDepth 100000 in
theorem refSize_any (x y z most : Int) (w : World) (hm : 0 ≤ most ∧ most ≤ 1000000000000000000) :
    Calls Try.prog 70 #[.agg #[.int .i64 x, .int .i64 y, .int .i64 z], .int .i64 most] w fun e w' => e = .returned (.bool (inV x y z most)) ∧ Below w.heap.size w w' := by
  have HV : Hid (inV x y z most = (inB x most && (inB y most && inB z most))) := rfl
  have W1 : IntKind.i64.wrap (-most) = -most := by rw [IntKind.wrap_i64]; omega
  by_cases h1 : inB x most = true
  · by_cases h2 : inB y most = true
    · by_cases h3 : inB z most = true
      · have H1 : Hid (inR x (-most) most = true) := h1
        have H2 : Hid (inR y (-most) most = true) := h2
        have H3 : Hid (inR z (-most) most = true) := h3
        have HR : Hid (inV x y z most = true) := hide (by rw [HV.out, h1, h2, h3]; rfl)
        rw [HR.out]
        clear h1 h2 h3
        go_enter Try.func70, Try.ntmps70
        go_wp2
        refine wp_loop_rounds 4 ?_
        rw [rounds_succ]
        go_wp2_with fail
        refine Lv.same (within3_any x (-most) most _) ?_
        rw [H1.out]
        go_wp2
        rw [rounds_succ]
        go_wp2_with fail
        refine Lv.same (within3_any y (-most) most _) ?_
        rw [H2.out]
        go_wp2
        rw [rounds_succ]
        go_wp2_with fail
        refine Lv.same (within3_any z (-most) most _) ?_
        rw [H3.out]
        go_wp2
        rw [rounds_succ]
        go_wp2
        go_ret
        refine ⟨rfl, ?_⟩
        repeat (first | exact Below.refl _ _ | refine Below.setCell ?_ (by simp) _ | refine Below.alloc ?_ (by first | omega | (simp; done) | (simp; omega)) _ | refine below_drewN ?_ _ | refine Below.drew ?_)
      · have H1 : Hid (inR x (-most) most = true) := h1
        have H2 : Hid (inR y (-most) most = true) := h2
        have h3' : inB z most = false := by simpa using h3
        have H3 : Hid (inR z (-most) most = false) := h3'
        have HR : Hid (inV x y z most = false) := hide (by rw [HV.out, h3', Bool.and_false, Bool.and_false])
        rw [HR.out]
        clear h1 h2 h3 h3'
        go_enter Try.func70, Try.ntmps70
        go_wp2
        refine wp_loop_rounds 4 ?_
        rw [rounds_succ]
        go_wp2_with fail
        refine Lv.same (within3_any x (-most) most _) ?_
        rw [H1.out]
        go_wp2
        rw [rounds_succ]
        go_wp2_with fail
        refine Lv.same (within3_any y (-most) most _) ?_
        rw [H2.out]
        go_wp2
        rw [rounds_succ]
        go_wp2_with fail
        refine Lv.same (within3_any z (-most) most _) ?_
        rw [H3.out]
        go_wp2
        go_ret
        refine ⟨rfl, ?_⟩
        repeat (first | exact Below.refl _ _ | refine Below.setCell ?_ (by simp) _ | refine Below.alloc ?_ (by first | omega | (simp; done) | (simp; omega)) _ | refine below_drewN ?_ _ | refine Below.drew ?_)
    · have H1 : Hid (inR x (-most) most = true) := h1
      have h2' : inB y most = false := by simpa using h2
      have H2 : Hid (inR y (-most) most = false) := h2'
      have HR : Hid (inV x y z most = false) := hide (by rw [HV.out, h2', Bool.false_and, Bool.and_false])
      rw [HR.out]
      clear h1 h2 h2'
      go_enter Try.func70, Try.ntmps70
      go_wp2
      refine wp_loop_rounds 4 ?_
      rw [rounds_succ]
      go_wp2_with fail
      refine Lv.same (within3_any x (-most) most _) ?_
      rw [H1.out]
      go_wp2
      rw [rounds_succ]
      go_wp2_with fail
      refine Lv.same (within3_any y (-most) most _) ?_
      rw [H2.out]
      go_wp2
      go_ret
      refine ⟨rfl, ?_⟩
      repeat (first | exact Below.refl _ _ | refine Below.setCell ?_ (by simp) _ | refine Below.alloc ?_ (by first | omega | (simp; done) | (simp; omega)) _ | refine below_drewN ?_ _ | refine Below.drew ?_)
  · have h1' : inB x most = false := by simpa using h1
    have H1 : Hid (inR x (-most) most = false) := h1'
    have HR : Hid (inV x y z most = false) := hide (by rw [HV.out, h1', Bool.false_and])
    rw [HR.out]
    clear h1 h1'
    go_enter Try.func70, Try.ntmps70
    go_wp2
    refine wp_loop_rounds 4 ?_
    rw [rounds_succ]
    go_wp2_with fail
    refine Lv.same (within3_any x (-most) most _) ?_
    rw [H1.out]
    go_wp2
    go_ret
    refine ⟨rfl, ?_⟩
    repeat (first | exact Below.refl _ _ | refine Below.setCell ?_ (by simp) _ | refine Below.alloc ?_ (by first | omega | (simp; done) | (simp; omega)) _ | refine below_drewN ?_ _ | refine Below.drew ?_)
set_option maxHeartbeats 4000000 in
set_option maxRecDepth 100000 in
theorem refPlace_any (x y z : Int) (w : World) :
    Calls Try.prog 25 #[.agg #[.int .i64 x, .int .i64 y, .int .i64 z]] w fun e w' => e = .returned (.bool (inV x y z 1000000)) ∧ Below w.heap.size w w' := by
  have L0 := hide (Lv.start w)
  go_enter Try.func25, Try.ntmps25
  go_wp2_with fail
  refine Lv.call (refSize_any x y z 1000000 _ (by omega)) (L0.out.put _ _) ?_
  intro w1 L1'
  have L1 := hide L1'
  have F1 := L1'.at
  clear L1'
  simp only [AllAt, CellsAt, updL, List.map, Nat.zero_add, Nat.reduceAdd, and_true, World.size_alloc, World.heap_drewN, heap_drew, size_set, Nat.add_eq_left, Nat.left_eq_add, Nat.add_right_cancel_iff, ne_up2, ne_dn2, ne_up3, ne_dn3, ne_up4, ne_dn4, Nat.reduceEqDiff, Nat.one_ne_zero, Nat.succ_ne_zero, Nat.zero_ne_one, reduceIte, List.set_cons_zero, List.set_cons_succ] at F1
  go_wp2
  go_ret
  refine ⟨rfl, ?_⟩
  repeat (first | (with_reducible exact L1.out.below) | refine Below.setCell ?_ (by first | omega | (simp; done) | (simp; omega)) _ | refine Below.alloc ?_ (by first | omega | (simp; done) | (simp; omega)) _ | refine below_drewN ?_ _ | refine Below.drew ?_)
set_option maxHeartbeats 4000000 in
set_option maxRecDepth 100000 in
theorem refMinus_any (a b c x y z u v t : Int) (w : World) (hu : IntKind.i64.wrap (a - x) = u) (hv : IntKind.i64.wrap (b - y) = v) (ht : IntKind.i64.wrap (c - z) = t) :
    Calls Try.prog 28 #[.agg #[.int .i64 a, .int .i64 b, .int .i64 c], .agg #[.int .i64 x, .int .i64 y, .int .i64 z]] w fun e w' => e = .returned (.agg #[.int .i64 u, .int .i64 v, .int .i64 t]) ∧ Below w.heap.size w w' := by
  go_enter Try.func28, Try.ntmps28
  go_wp2
  first | (refine bodyPost_ret (v := .agg #[.int .i64 u, .int .i64 v, .int .i64 t]) (by simp [results, Try.results28, go_sem]) rfl ⟨rfl, ?_⟩) | (go_quiet (fail); go_wp2; refine bodyPost_ret (v := .agg #[.int .i64 u, .int .i64 v, .int .i64 t]) (by simp [results, Try.results28, go_sem]) rfl ⟨rfl, ?_⟩) | fail
  repeat (first | exact Below.refl _ _ | refine Below.setCell ?_ (by simp) _ | refine Below.alloc ?_ (by first | omega | (simp; done) | (simp; omega)) _ | refine below_drewN ?_ _ | refine Below.drew ?_)
end Go.Proofs.Ytjfcjclhbnmgcaa
