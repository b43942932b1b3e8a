/- Contracts of agrafferef03.size, CheckBearing, steep, DownBearing. Every bound is a premise of the theorem that bears it. -/
import Derived.Test.YtdhbjklbgdnfmaaPlDown
import Derived.Handy
namespace Go.Proofs.Ytdhbjklbgdnfmaa
open Go.RowKit
set_option linter.unusedVariables false
set_option linter.unusedSimpArgs false

theorem inB_R (x m : Int) : inR x (-m) m = inB x m := rfl
set_option maxHeartbeats 4000000 in
set_option maxRecDepth 100000 in
theorem refSize_any (x y z most : Int) (w : World) (hm : 0 ≤ most ∧ most ≤ 1000000000000000000) :
    Calls Try.prog 84 #[.agg #[.int .i64 x, .int .i64 y, .int .i64 z], .int .i64 most] w fun e w' => e = .returned (.bool (inV x y z most)) ∧ Below w.heap.size w w' := by
  have HV : Hid (inV x y z most = (inB x most && (inB y most && inB z most))) := rfl
  have W1 : IntKind.i64.wrap (-most) = -most := by rw [IntKind.wrap_i64]; omega
  by_cases h1 : inB x most = true
  · by_cases h2 : inB y most = true
    · by_cases h3 : inB z most = true
      · have H1 : Hid (inR x (-most) most = true) := h1
        have H2 : Hid (inR y (-most) most = true) := h2
        have H3 : Hid (inR z (-most) most = true) := h3
        have HR : Hid (inV x y z most = true) := hide (by rw [HV.out, h1, h2, h3]; rfl)
        rw [HR.out]
        clear h1 h2 h3
        go_enter Try.func84, Try.ntmps84
        go_wp2
        refine wp_loop_rounds 4 ?_
        rw [rounds_succ]
        go_wp2_with fail
        refine Lv.same (within3_any x (-most) most _) ?_
        rw [H1.out]
        go_wp2
        rw [rounds_succ]
        go_wp2_with fail
        refine Lv.same (within3_any y (-most) most _) ?_
        rw [H2.out]
        go_wp2
        rw [rounds_succ]
        go_wp2_with fail
        refine Lv.same (within3_any z (-most) most _) ?_
        rw [H3.out]
        go_wp2
        rw [rounds_succ]
        go_wp2
        go_ret
        refine ⟨rfl, ?_⟩
        repeat (first | exact Below.refl _ _ | refine Below.setCell ?_ (by simp) _ | refine Below.alloc ?_ (by first | omega | (simp; done) | (simp; omega)) _ | refine below_drewN ?_ _ | refine Below.drew ?_)
      · have H1 : Hid (inR x (-most) most = true) := h1
        have H2 : Hid (inR y (-most) most = true) := h2
        have h3' : inB z most = false := by simpa using h3
        have H3 : Hid (inR z (-most) most = false) := h3'
        have HR : Hid (inV x y z most = false) := hide (by rw [HV.out, h3', Bool.and_false, Bool.and_false])
        rw [HR.out]
        clear h1 h2 h3 h3'
        go_enter Try.func84, Try.ntmps84
        go_wp2
        refine wp_loop_rounds 4 ?_
        rw [rounds_succ]
        go_wp2_with fail
        refine Lv.same (within3_any x (-most) most _) ?_
        rw [H1.out]
        go_wp2
        rw [rounds_succ]
        go_wp2_with fail
        refine Lv.same (within3_any y (-most) most _) ?_
        rw [H2.out]
        go_wp2
        rw [rounds_succ]
        go_wp2_with fail
        refine Lv.same (within3_any z (-most) most _) ?_
        rw [H3.out]
        go_wp2
        go_ret
        refine ⟨rfl, ?_⟩
        repeat (first | exact Below.refl _ _ | refine Below.setCell ?_ (by simp) _ | refine Below.alloc ?_ (by first | omega | (simp; done) | (simp; omega)) _ | refine below_drewN ?_ _ | refine Below.drew ?_)
    · have H1 : Hid (inR x (-most) most = true) := h1
      have h2' : inB y most = false := by simpa using h2
      have H2 : Hid (inR y (-most) most = false) := h2'
      have HR : Hid (inV x y z most = false) := hide (by rw [HV.out, h2', Bool.false_and, Bool.and_false])
      rw [HR.out]
      clear h1 h2 h2'
      go_enter Try.func84, Try.ntmps84
      go_wp2
      refine wp_loop_rounds 4 ?_
      rw [rounds_succ]
      go_wp2_with fail
      refine Lv.same (within3_any x (-most) most _) ?_
      rw [H1.out]
      go_wp2
      rw [rounds_succ]
      go_wp2_with fail
      refine Lv.same (within3_any y (-most) most _) ?_
      rw [H2.out]
      go_wp2
      go_ret
      refine ⟨rfl, ?_⟩
      repeat (first | exact Below.refl _ _ | refine Below.setCell ?_ (by simp) _ | refine Below.alloc ?_ (by first | omega | (simp; done) | (simp; omega)) _ | refine below_drewN ?_ _ | refine Below.drew ?_)
  · have h1' : inB x most = false := by simpa using h1
    have H1 : Hid (inR x (-most) most = false) := h1'
    have HR : Hid (inV x y z most = false) := hide (by rw [HV.out, h1', Bool.false_and])
    rw [HR.out]
    clear h1 h1'
    go_enter Try.func84, Try.ntmps84
    go_wp2
    refine wp_loop_rounds 4 ?_
    rw [rounds_succ]
    go_wp2_with fail
    refine Lv.same (within3_any x (-most) most _) ?_
    rw [H1.out]
    go_wp2
    go_ret
    refine ⟨rfl, ?_⟩
    repeat (first | exact Below.refl _ _ | refine Below.setCell ?_ (by simp) _ | refine Below.alloc ?_ (by first | omega | (simp; done) | (simp; omega)) _ | refine below_drewN ?_ _ | refine Below.drew ?_)
set_option maxHeartbeats 4000000 in
set_option maxRecDepth 100000 in
theorem refBearing_any (f b k a h : Int) (w : World) :
    Calls Try.prog 60 #[.agg #[.int .i64 f, .int .i64 b, .int .i64 k, .int .i64 a, .int .i64 h]] w fun e w' => e = .returned (.int .i64 (brgE f b k a h)) ∧ Below w.heap.size w w' := by
  by_cases hv : inV f b k 10000 = true
  · have HV := hide hv
    by_cases h1 : 1 ≤ a ∧ a ≤ 300000
    · have J1 := hide (inR_yes (n := a) (lo := 1) (hi := 300000) h1)
      by_cases h2 : 1 ≤ h ∧ h ≤ 300000
      · have J2 := hide (inR_yes (n := h) (lo := 1) (hi := 300000) h2)
        have HE : Hid (brgE f b k a h = 0) := if_pos (by unfold brgB; rw [hv]; simp; omega)
        rw [HE.out]
        clear hv h1 h2
        have L0 := hide (Lv.start w)
        go_enter Try.func60, Try.ntmps60
        go_wp2_with fail
        refine Lv.call (refSize_any f b k 10000 _ (by omega)) (L0.out.put _ _) ?_
        intro w1 L1'
        have L1 := hide L1'
        have F1 := L1'.at
        clear L1'
        simp only [AllAt, CellsAt, updL, List.map, Nat.zero_add, Nat.reduceAdd, and_true, World.size_alloc, World.heap_drewN, heap_drew, size_set, Nat.add_eq_left, Nat.left_eq_add, Nat.add_right_cancel_iff, ne_up2, ne_dn2, ne_up3, ne_dn3, ne_up4, ne_dn4, Nat.reduceEqDiff, Nat.one_ne_zero, Nat.succ_ne_zero, Nat.zero_ne_one, reduceIte, List.set_cons_zero, List.set_cons_succ] at F1
        rw [HV.out]
        go_wp2_with fail
        refine Lv.same (within3_any a 1 300000 _) ?_
        rw [J1.out]
        go_wp2_with fail
        refine Lv.same (within3_any h 1 300000 _) ?_
        rw [J2.out]
        go_wp2
        go_ret
        refine ⟨rfl, ?_⟩
        repeat (first | (with_reducible exact L1.out.below) | refine Below.setCell ?_ (by first | omega | (simp; done) | (simp; omega)) _ | refine Below.alloc ?_ (by first | omega | (simp; done) | (simp; omega)) _ | refine below_drewN ?_ _ | refine Below.drew ?_)
      · have J2 := hide (inR_no (n := h) (lo := 1) (hi := 300000) h2)
        have HE : Hid (brgE f b k a h = 2) := if_neg (by unfold brgB; rw [hv]; simp; omega)
        rw [HE.out]
        clear hv h1 h2
        have L0 := hide (Lv.start w)
        go_enter Try.func60, Try.ntmps60
        go_wp2_with fail
        refine Lv.call (refSize_any f b k 10000 _ (by omega)) (L0.out.put _ _) ?_
        intro w1 L1'
        have L1 := hide L1'
        have F1 := L1'.at
        clear L1'
        simp only [AllAt, CellsAt, updL, List.map, Nat.zero_add, Nat.reduceAdd, and_true, World.size_alloc, World.heap_drewN, heap_drew, size_set, Nat.add_eq_left, Nat.left_eq_add, Nat.add_right_cancel_iff, ne_up2, ne_dn2, ne_up3, ne_dn3, ne_up4, ne_dn4, Nat.reduceEqDiff, Nat.one_ne_zero, Nat.succ_ne_zero, Nat.zero_ne_one, reduceIte, List.set_cons_zero, List.set_cons_succ] at F1
        rw [HV.out]
        go_wp2_with fail
        refine Lv.same (within3_any a 1 300000 _) ?_
        rw [J1.out]
        go_wp2_with fail
        refine Lv.same (within3_any h 1 300000 _) ?_
        rw [J2.out]
        go_wp2
        go_ret
        refine ⟨rfl, ?_⟩
        repeat (first | (with_reducible exact L1.out.below) | refine Below.setCell ?_ (by first | omega | (simp; done) | (simp; omega)) _ | refine Below.alloc ?_ (by first | omega | (simp; done) | (simp; omega)) _ | refine below_drewN ?_ _ | refine Below.drew ?_)
    · have J1 := hide (inR_no (n := a) (lo := 1) (hi := 300000) h1)
      have HE : Hid (brgE f b k a h = 2) := if_neg (by unfold brgB; rw [hv]; simp; omega)
      rw [HE.out]
      clear hv h1
      have L0 := hide (Lv.start w)
      go_enter Try.func60, Try.ntmps60
      go_wp2_with fail
      refine Lv.call (refSize_any f b k 10000 _ (by omega)) (L0.out.put _ _) ?_
      intro w1 L1'
      have L1 := hide L1'
      have F1 := L1'.at
      clear L1'
      simp only [AllAt, CellsAt, updL, List.map, Nat.zero_add, Nat.reduceAdd, and_true, World.size_alloc, World.heap_drewN, heap_drew, size_set, Nat.add_eq_left, Nat.left_eq_add, Nat.add_right_cancel_iff, ne_up2, ne_dn2, ne_up3, ne_dn3, ne_up4, ne_dn4, Nat.reduceEqDiff, Nat.one_ne_zero, Nat.succ_ne_zero, Nat.zero_ne_one, reduceIte, List.set_cons_zero, List.set_cons_succ] at F1
      rw [HV.out]
      go_wp2_with fail
      refine Lv.same (within3_any a 1 300000 _) ?_
      rw [J1.out]
      go_wp2
      go_ret
      refine ⟨rfl, ?_⟩
      repeat (first | (with_reducible exact L1.out.below) | refine Below.setCell ?_ (by first | omega | (simp; done) | (simp; omega)) _ | refine Below.alloc ?_ (by first | omega | (simp; done) | (simp; omega)) _ | refine below_drewN ?_ _ | refine Below.drew ?_)
  · have hv' : inV f b k 10000 = false := by simpa using hv
    have HV := hide hv'
    have HE : Hid (brgE f b k a h = 2) := if_neg (by unfold brgB; rw [hv']; simp)
    rw [HE.out]
    clear hv hv'
    have L0 := hide (Lv.start w)
    go_enter Try.func60, Try.ntmps60
    go_wp2_with fail
    refine Lv.call (refSize_any f b k 10000 _ (by omega)) (L0.out.put _ _) ?_
    intro w1 L1'
    have L1 := hide L1'
    have F1 := L1'.at
    clear L1'
    simp only [AllAt, CellsAt, updL, List.map, Nat.zero_add, Nat.reduceAdd, and_true, World.size_alloc, World.heap_drewN, heap_drew, size_set, Nat.add_eq_left, Nat.left_eq_add, Nat.add_right_cancel_iff, ne_up2, ne_dn2, ne_up3, ne_dn3, ne_up4, ne_dn4, Nat.reduceEqDiff, Nat.one_ne_zero, Nat.succ_ne_zero, Nat.zero_ne_one, reduceIte, List.set_cons_zero, List.set_cons_succ] at F1
    rw [HV.out]
    go_wp2
    go_ret
    refine ⟨rfl, ?_⟩
    repeat (first | (with_reducible exact L1.out.below) | refine Below.setCell ?_ (by first | omega | (simp; done) | (simp; omega)) _ | refine Below.alloc ?_ (by first | omega | (simp; done) | (simp; omega)) _ | refine below_drewN ?_ _ | refine Below.drew ?_)
set_option maxHeartbeats 4000000 in
set_option maxRecDepth 100000 in
theorem refSteep_any (f b k a h : Int) (w : World) (o : BrgOk f b k a h) :
    Calls Try.prog 103 #[.agg #[.int .i64 f, .int .i64 b, .int .i64 k, .int .i64 a, .int .i64 h]] w fun e w' => e = .returned (.int .i64 (steep f b k a h)) ∧ Below w.heap.size w w' := by
  obtain ⟨k1, k2, k3, k4⟩ := steep_in o
  obtain ⟨h1, h2, h3, h4, h5⟩ := o
  have HS : Hid (steep f b k a h = (b - f) * h + (b - k) * a) := rfl
  rw [HS.out] at k3 ⊢
  go_enter Try.func103, Try.ntmps103
  go_wp2
  go_ret
  refine ⟨rfl, ?_⟩
  repeat (first | exact Below.refl _ _ | refine Below.setCell ?_ (by simp) _ | refine Below.alloc ?_ (by first | omega | (simp; done) | (simp; omega)) _ | refine below_drewN ?_ _ | refine Below.drew ?_)
set_option maxHeartbeats 4000000 in
set_option maxRecDepth 100000 in
theorem refDownB_any (f b k a h t : Int) (w : World) (hE : brgE f b k a h = 0) (ht : 0 ≤ t ∧ t ≤ 10000000) :
    Calls Try.prog 62 #[.agg #[.int .i64 f, .int .i64 b, .int .i64 k, .int .i64 a, .int .i64 h], .int .i64 t] w fun e w' => e = .returned (.agg #[.int .i64 (lowN (t * steep f b k a h) (a * h)), .int .i64 (lowD (t * steep f b k a h) (a * h))]) ∧ Below w.heap.size w w' := by
  have o := brg_ok hE
  obtain ⟨k1, k2, k3, k4⟩ := steep_in o
  have HO := hide o
  have k5 := mul_bound (x := t) (y := steep f b k a h) 10000000 12000000000 (by omega) (by omega)
  rw [show (10000000 * 12000000000 : Nat) = 120000000000000000 from rfl] at k5
  obtain ⟨s, hs⟩ : ∃ s, s = steep f b k a h := ⟨_, rfl⟩
  have CR := fun W => refSteep_any f b k a h W HO.out
  rw [← hs] at k3 k5 CR ⊢
  replace CR := hide CR
  have CL := fun W => baseLowest_any (t * s) (a * h) W (by omega) (by omega)
  have e1 : (t * s).tdiv (gcdF (t * s) (a * h)) = lowN (t * s) (a * h) := rfl
  have e2 : a * h / (gcdF (t * s) (a * h)) = lowD (t * s) (a * h) := rfl
  rw [e1, e2] at CL
  obtain ⟨x, hx⟩ : ∃ x, x = lowN (t * s) (a * h) := ⟨_, rfl⟩
  obtain ⟨y, hy⟩ : ∃ x, x = lowD (t * s) (a * h) := ⟨_, rfl⟩
  rw [← hx, ← hy] at CL
  rw [← hx, ← hy]
  replace CL := hide CL
  have W1 : IntKind.i64.wrap (t * s) = t * s := by rw [IntKind.wrap_i64]; omega
  have W2 : IntKind.i64.wrap (a * h) = a * h := by rw [IntKind.wrap_i64]; omega
  clear hs hx hy e1 e2 hE o
  have L0 := hide (Lv.start w)
  go_enter Try.func62, Try.ntmps62
  go_wp2
  (first | (go_region_held3 (fun w' => w'.cell? ⟨w.heap.size, 0, none⟩ = some (.int .i64 f) ∧ w'.cell? ⟨w.heap.size, 1, none⟩ = some (.int .i64 b) ∧ w'.cell? ⟨w.heap.size, 2, none⟩ = some (.int .i64 k) ∧ w'.cell? ⟨w.heap.size, 3, none⟩ = some (.int .i64 a) ∧ w'.cell? ⟨w.heap.size, 4, none⟩ = some (.int .i64 h))
    (go_keep)
    (first | (go_at_call 103; refine Lv.call (CR.out _) ((L0.out.put _ _).put _ _).drew ?_; intro w1 L1'; have L1 := hide L1'; have F1 := L1'.at; clear L1'; simp only [AllAt, CellsAt, updL, List.map, Nat.zero_add, Nat.reduceAdd, and_true, World.size_alloc, World.heap_drewN, heap_drew, size_set, Nat.add_eq_left, Nat.left_eq_add, Nat.add_right_cancel_iff, ne_up2, ne_dn2, ne_up3, ne_dn3, ne_up4, ne_dn4, Nat.reduceEqDiff, Nat.one_ne_zero, Nat.succ_ne_zero, Nat.zero_ne_one, reduceIte, List.set_cons_zero, List.set_cons_succ] at F1) | (go_at_call 92; refine Lv.call (CL.out _) L1.out ?_; intro w2 L2'; have L2 := hide L2'; have F2 := L2'.at; clear L2'; simp only [AllAt, CellsAt, updL, List.map, Nat.zero_add, Nat.reduceAdd, and_true, World.size_alloc, World.heap_drewN, heap_drew, size_set, Nat.add_eq_left, Nat.left_eq_add, Nat.add_right_cancel_iff, ne_up2, ne_dn2, ne_up3, ne_dn3, ne_up4, ne_dn4, Nat.reduceEqDiff, Nat.one_ne_zero, Nat.succ_ne_zero, Nat.zero_ne_one, reduceIte, List.set_cons_zero, List.set_cons_succ] at F2) | fail)) | fail)
  all_goals
    go_wp2
    refine bodyPost_ret (v := .agg #[.int .i64 x, .int .i64 y]) (by simp [results, Try.results62, go_sem, F2]) rfl ⟨rfl, ?_⟩
    repeat (first | (with_reducible exact L2.out.below) | refine Below.setCell ?_ (by first | omega | (simp; done) | (simp; omega)) _ | refine Below.alloc ?_ (by first | omega | (simp; done) | (simp; omega)) _ | refine below_drewN ?_ _ | refine Below.drew ?_)
end Go.Proofs.Ytdhbjklbgdnfmaa
