/- The contract of agrafferef03.PullOf. Every bound is a premise of the theorem that bears it. -/
import Derived.Test.YtdhbjklbgdnfmaaPlRefP
namespace Go.Proofs.Ytdhbjklbgdnfmaa
open Go.RowKit
set_option linter.unusedVariables false
set_option linter.unusedSimpArgs false

theorem ten_parts {lo hi : Int} (h : tenB lo hi 10000000000 = false) : inR lo 0 hi = false ∨ (inR lo 0 hi = true ∧ 10000000000 < hi) := by
  unfold tenB at h
  have h' := of_decide_eq_false h
  by_cases h1 : 0 ≤ lo ∧ lo ≤ hi
  · exact Or.inr ⟨inR_yes h1, by omega⟩
  · exact Or.inl (inR_no h1)
theorem plE_no {a b c : Int} (h : plE a b c = 2) : inV a b c 1000000 = false := by
  unfold plE at h
  by_cases hb : inV a b c 1000000 = true
  · rw [if_pos hb] at h; omega
  · simpa using hb
theorem plE_yes {a b c : Int} (h : plE a b c = 0) : inV a b c 1000000 = true := by
  unfold plE at h
  by_cases hb : inV a b c 1000000 = true
  · exact hb
  · rw [if_neg hb] at h; omega
set_option maxHeartbeats 4000000 in
set_option maxRecDepth 100000 in
theorem refPull_slack (lo hi a b c x y z : Int) (w : World) (hT : tenB lo hi 10000000000 = false) :
    Calls Try.prog 23 #[.agg #[.int .i64 lo, .int .i64 hi], .agg #[.int .i64 a, .int .i64 b, .int .i64 c], .agg #[.int .i64 x, .int .i64 y, .int .i64 z]] w fun e w' => e = .returned (.tuple #[.agg #[.int .i64 0, .int .i64 0, .int .i64 0, .int .i64 0, .int .i64 0, .int .i64 0], .int .i64 2]) ∧ Below w.heap.size w w' := by
  rcases ten_parts hT with h | ⟨h, h2⟩
  · have H := hide h
    clear h hT
    go_enter Try.func23, Try.ntmps23
    go_wp2_with fail
    refine Lv.same (within3_any lo 0 hi _) ?_
    rw [H.out]
    go_wp2
    refine bodyPost_ret (v := .tuple #[.agg #[.int .i64 0, .int .i64 0, .int .i64 0, .int .i64 0, .int .i64 0, .int .i64 0], .int .i64 2]) (by simp [results, Try.results23, go_sem, H]) rfl ⟨rfl, ?_⟩
    repeat (first | exact Below.refl _ _ | refine Below.setCell ?_ (by simp; omega) _ | refine Below.alloc ?_ (by first | omega | (simp; done) | (simp; omega)) _ | refine below_drewN ?_ _ | refine Below.drew ?_)
  · have H := hide h
    clear h hT
    go_enter Try.func23, Try.ntmps23
    go_wp2_with fail
    refine Lv.same (within3_any lo 0 hi _) ?_
    rw [H.out]
    go_wp2
    refine bodyPost_ret (v := .tuple #[.agg #[.int .i64 0, .int .i64 0, .int .i64 0, .int .i64 0, .int .i64 0, .int .i64 0], .int .i64 2]) (by simp [results, Try.results23, go_sem, H]) rfl ⟨rfl, ?_⟩
    repeat (first | exact Below.refl _ _ | refine Below.setCell ?_ (by simp; omega) _ | refine Below.alloc ?_ (by first | omega | (simp; done) | (simp; omega)) _ | refine below_drewN ?_ _ | refine Below.drew ?_)
set_option maxHeartbeats 4000000 in
set_option maxRecDepth 100000 in
theorem refPull_from (lo hi a b c x y z : Int) (w : World) (hT : tenB lo hi 10000000000 = true) (hP : plE a b c = 2) :
    Calls Try.prog 23 #[.agg #[.int .i64 lo, .int .i64 hi], .agg #[.int .i64 a, .int .i64 b, .int .i64 c], .agg #[.int .i64 x, .int .i64 y, .int .i64 z]] w fun e w' => e = .returned (.tuple #[.agg #[.int .i64 0, .int .i64 0, .int .i64 0, .int .i64 0, .int .i64 0, .int .i64 0], .int .i64 2]) ∧ Below w.heap.size w w' := by
  obtain ⟨t1, t2, t3⟩ := ten_ok hT
  have H := hide (inR_yes (n := lo) (lo := 0) (hi := hi) ⟨t1, t2⟩)
  have HP := hide (plE_no hP)
  clear hT hP
  have L0 := hide (Lv.start w)
  go_enter Try.func23, Try.ntmps23
  go_wp2_with fail
  refine Lv.same (within3_any lo 0 hi _) ?_
  rw [H.out]
  go_wp2_with fail
  refine Lv.call (refPlace_any a b c _) (((((L0.out.put _ _).put _ _).put _ _).put _ _).put _ _) ?_
  intro w1 L1'
  have L1 := hide L1'
  have F1 := L1'.at
  clear L1'
  simp only [AllAt, CellsAt, updL, List.map, Nat.zero_add, Nat.reduceAdd, and_true, World.size_alloc, World.heap_drewN, heap_drew, size_set, Nat.add_eq_left, Nat.left_eq_add, Nat.add_right_cancel_iff, ne_up2, ne_dn2, ne_up3, ne_dn3, ne_up4, ne_dn4, Nat.reduceEqDiff, Nat.one_ne_zero, Nat.succ_ne_zero, Nat.zero_ne_one, reduceIte, List.set_cons_zero, List.set_cons_succ] at F1
  rw [HP.out]
  go_wp2
  refine bodyPost_ret (v := .tuple #[.agg #[.int .i64 0, .int .i64 0, .int .i64 0, .int .i64 0, .int .i64 0, .int .i64 0], .int .i64 2]) (by simp [results, Try.results23, go_sem, F1]) rfl ⟨rfl, ?_⟩
  repeat (first | (with_reducible exact L1.out.below) | refine Below.setCell ?_ (by first | omega | (simp; done) | (simp; omega)) _ | refine Below.alloc ?_ (by first | omega | (simp; done) | (simp; omega)) _ | refine below_drewN ?_ _ | refine Below.drew ?_)
set_option maxHeartbeats 4000000 in
set_option maxRecDepth 100000 in
theorem refPull_to (lo hi a b c x y z : Int) (w : World) (hT : tenB lo hi 10000000000 = true) (hP : plE a b c = 0) (hP2 : plE x y z = 2) :
    Calls Try.prog 23 #[.agg #[.int .i64 lo, .int .i64 hi], .agg #[.int .i64 a, .int .i64 b, .int .i64 c], .agg #[.int .i64 x, .int .i64 y, .int .i64 z]] w fun e w' => e = .returned (.tuple #[.agg #[.int .i64 0, .int .i64 0, .int .i64 0, .int .i64 0, .int .i64 0, .int .i64 0], .int .i64 2]) ∧ Below w.heap.size w w' := by
  obtain ⟨t1, t2, t3⟩ := ten_ok hT
  have H := hide (inR_yes (n := lo) (lo := 0) (hi := hi) ⟨t1, t2⟩)
  have HP := hide (plE_yes hP)
  have HP2 := hide (plE_no hP2)
  clear hT hP hP2
  have L0 := hide (Lv.start w)
  go_enter Try.func23, Try.ntmps23
  go_wp2_with fail
  refine Lv.same (within3_any lo 0 hi _) ?_
  rw [H.out]
  go_wp2_with fail
  refine Lv.call (refPlace_any a b c _) (((((L0.out.put _ _).put _ _).put _ _).put _ _).put _ _) ?_
  intro w1 L1'
  have L1 := hide L1'
  have F1 := L1'.at
  clear L1'
  simp only [AllAt, CellsAt, updL, List.map, Nat.zero_add, Nat.reduceAdd, and_true, World.size_alloc, World.heap_drewN, heap_drew, size_set, Nat.add_eq_left, Nat.left_eq_add, Nat.add_right_cancel_iff, ne_up2, ne_dn2, ne_up3, ne_dn3, ne_up4, ne_dn4, Nat.reduceEqDiff, Nat.one_ne_zero, Nat.succ_ne_zero, Nat.zero_ne_one, reduceIte, List.set_cons_zero, List.set_cons_succ] at F1
  rw [HP.out]
  go_wp2_with fail
  refine Lv.call (refPlace_any x y z _) L1.out ?_
  intro w2 L2'
  have L2 := hide L2'
  have F2 := L2'.at
  clear L2' F1
  simp only [AllAt, CellsAt, updL, List.map, Nat.zero_add, Nat.reduceAdd, and_true, World.size_alloc, World.heap_drewN, heap_drew, size_set, Nat.add_eq_left, Nat.left_eq_add, Nat.add_right_cancel_iff, ne_up2, ne_dn2, ne_up3, ne_dn3, ne_up4, ne_dn4, Nat.reduceEqDiff, Nat.one_ne_zero, Nat.succ_ne_zero, Nat.zero_ne_one, reduceIte, List.set_cons_zero, List.set_cons_succ] at F2
  rw [HP2.out]
  go_wp2
  refine bodyPost_ret (v := .tuple #[.agg #[.int .i64 0, .int .i64 0, .int .i64 0, .int .i64 0, .int .i64 0, .int .i64 0], .int .i64 2]) (by simp [results, Try.results23, go_sem, F2]) rfl ⟨rfl, ?_⟩
  repeat (first | (with_reducible exact L2.out.below) | refine Below.setCell ?_ (by first | omega | (simp; done) | (simp; omega)) _ | refine Below.alloc ?_ (by first | omega | (simp; done) | (simp; omega)) _ | refine below_drewN ?_ _ | refine Below.drew ?_)
set_option maxHeartbeats 4000000 in
set_option maxRecDepth 100000 in
theorem refPull_far (lo hi a b c x y z u v t : Int) (w : World) (hT : tenB lo hi 10000000000 = true) (hP : plE a b c = 0) (hP2 : plE x y z = 0) (hu : x - a = u) (hv : y - b = v) (ht : z - c = t) (hF : inV u v t 1000000 = false) :
    Calls Try.prog 23 #[.agg #[.int .i64 lo, .int .i64 hi], .agg #[.int .i64 a, .int .i64 b, .int .i64 c], .agg #[.int .i64 x, .int .i64 y, .int .i64 z]] w fun e w' => e = .returned (.tuple #[.agg #[.int .i64 0, .int .i64 0, .int .i64 0, .int .i64 0, .int .i64 0, .int .i64 0], .int .i64 2]) ∧ Below w.heap.size w w' := by
  obtain ⟨t1, t2, t3⟩ := ten_ok hT
  obtain ⟨p1, p2, p3⟩ := place3 hP
  obtain ⟨p4, p5, p6⟩ := place3 hP2
  have H := hide (inR_yes (n := lo) (lo := 0) (hi := hi) ⟨t1, t2⟩)
  have HP := hide (plE_yes hP)
  have HP2 := hide (plE_yes hP2)
  have HU : Hid (IntKind.i64.wrap (x - a) = u) := hide (by rw [IntKind.wrap_i64]; omega)
  have HV : Hid (IntKind.i64.wrap (y - b) = v) := hide (by rw [IntKind.wrap_i64]; omega)
  have HW : Hid (IntKind.i64.wrap (z - c) = t) := hide (by rw [IntKind.wrap_i64]; omega)
  have HF := hide hF
  clear hT hP hP2 hF hu hv ht
  have L0 := hide (Lv.start w)
  go_enter Try.func23, Try.ntmps23
  go_wp2_with fail
  refine Lv.same (within3_any lo 0 hi _) ?_
  rw [H.out]
  go_wp2_with fail
  refine Lv.call (refPlace_any a b c _) (((((L0.out.put _ _).put _ _).put _ _).put _ _).put _ _) ?_
  intro w1 L1'
  have L1 := hide L1'
  have F1 := L1'.at
  clear L1'
  simp only [AllAt, CellsAt, updL, List.map, Nat.zero_add, Nat.reduceAdd, and_true, World.size_alloc, World.heap_drewN, heap_drew, size_set, Nat.add_eq_left, Nat.left_eq_add, Nat.add_right_cancel_iff, ne_up2, ne_dn2, ne_up3, ne_dn3, ne_up4, ne_dn4, Nat.reduceEqDiff, Nat.one_ne_zero, Nat.succ_ne_zero, Nat.zero_ne_one, reduceIte, List.set_cons_zero, List.set_cons_succ] at F1
  rw [HP.out]
  go_wp2_with fail
  refine Lv.call (refPlace_any x y z _) L1.out ?_
  intro w2 L2'
  have L2 := hide L2'
  have F2 := L2'.at
  clear L2' F1
  simp only [AllAt, CellsAt, updL, List.map, Nat.zero_add, Nat.reduceAdd, and_true, World.size_alloc, World.heap_drewN, heap_drew, size_set, Nat.add_eq_left, Nat.left_eq_add, Nat.add_right_cancel_iff, ne_up2, ne_dn2, ne_up3, ne_dn3, ne_up4, ne_dn4, Nat.reduceEqDiff, Nat.one_ne_zero, Nat.succ_ne_zero, Nat.zero_ne_one, reduceIte, List.set_cons_zero, List.set_cons_succ] at F2
  rw [HP2.out]
  go_wp2_with fail
  refine Lv.call (refMinus_any x y z a b c u v t _ HU.out HV.out HW.out) L2.out ?_
  intro w3 L3'
  have L3 := hide L3'
  have F3 := L3'.at
  clear L3' F2
  simp only [AllAt, CellsAt, updL, List.map, Nat.zero_add, Nat.reduceAdd, and_true, World.size_alloc, World.heap_drewN, heap_drew, size_set, Nat.add_eq_left, Nat.left_eq_add, Nat.add_right_cancel_iff, ne_up2, ne_dn2, ne_up3, ne_dn3, ne_up4, ne_dn4, Nat.reduceEqDiff, Nat.one_ne_zero, Nat.succ_ne_zero, Nat.zero_ne_one, reduceIte, List.set_cons_zero, List.set_cons_succ] at F3
  go_wp2_with fail
  refine Lv.call (refSize_any u v t 1000000 _ (by omega)) (L3.out.put _ _) ?_
  intro w4 L4'
  have L4 := hide L4'
  have F4 := L4'.at
  clear L4' F3
  simp only [AllAt, CellsAt, updL, List.map, Nat.zero_add, Nat.reduceAdd, and_true, World.size_alloc, World.heap_drewN, heap_drew, size_set, Nat.add_eq_left, Nat.left_eq_add, Nat.add_right_cancel_iff, ne_up2, ne_dn2, ne_up3, ne_dn3, ne_up4, ne_dn4, Nat.reduceEqDiff, Nat.one_ne_zero, Nat.succ_ne_zero, Nat.zero_ne_one, reduceIte, List.set_cons_zero, List.set_cons_succ] at F4
  rw [HF.out]
  go_wp2
  refine bodyPost_ret (v := .tuple #[.agg #[.int .i64 0, .int .i64 0, .int .i64 0, .int .i64 0, .int .i64 0, .int .i64 0], .int .i64 2]) (by simp [results, Try.results23, go_sem, F4]) rfl ⟨rfl, ?_⟩
  repeat (first | (with_reducible exact L4.out.below) | refine Below.setCell ?_ (by first | omega | (simp; done) | (simp; omega)) _ | refine Below.alloc ?_ (by first | omega | (simp; done) | (simp; omega)) _ | refine below_drewN ?_ _ | refine Below.drew ?_)
set_option maxHeartbeats 4000000 in
set_option maxRecDepth 100000 in
theorem refPull_same (lo hi a b c x y z : Int) (w : World) (hT : tenB lo hi 10000000000 = true) (hP : plE a b c = 0) (hP2 : plE x y z = 0) (hu : x - a = 0) (hv : y - b = 0) (ht : z - c = 0) (hF : inV 0 0 0 1000000 = true) :
    Calls Try.prog 23 #[.agg #[.int .i64 lo, .int .i64 hi], .agg #[.int .i64 a, .int .i64 b, .int .i64 c], .agg #[.int .i64 x, .int .i64 y, .int .i64 z]] w fun e w' => e = .returned (.tuple #[.agg #[.int .i64 0, .int .i64 0, .int .i64 0, .int .i64 0, .int .i64 0, .int .i64 0], .int .i64 11]) ∧ Below w.heap.size w w' := by
  obtain ⟨u, hu0⟩ : ∃ u : Int, u = 0 := ⟨_, rfl⟩
  obtain ⟨v, hv0⟩ : ∃ u : Int, u = 0 := ⟨_, rfl⟩
  obtain ⟨t, ht0⟩ : ∃ u : Int, u = 0 := ⟨_, rfl⟩
  rw [← hu0] at hu
  rw [← hv0] at hv
  rw [← ht0] at ht
  have hF : inV u v t 1000000 = true := by subst hu0 hv0 ht0; rfl
  have m1 : u * u = 0 := by rw [hu0]; rfl
  have m2 : v * v = 0 := by rw [hv0]; rfl
  have m3 : t * t = 0 := by rw [ht0]; rfl
  clear hu0 hv0 ht0
  obtain ⟨t1, t2, t3⟩ := ten_ok hT
  obtain ⟨p1, p2, p3⟩ := place3 hP
  obtain ⟨p4, p5, p6⟩ := place3 hP2
  have H := hide (inR_yes (n := lo) (lo := 0) (hi := hi) ⟨t1, t2⟩)
  have HP := hide (plE_yes hP)
  have HP2 := hide (plE_yes hP2)
  have HU : Hid (IntKind.i64.wrap (x - a) = u) := hide (by rw [IntKind.wrap_i64]; omega)
  have HV : Hid (IntKind.i64.wrap (y - b) = v) := hide (by rw [IntKind.wrap_i64]; omega)
  have HW : Hid (IntKind.i64.wrap (z - c) = t) := hide (by rw [IntKind.wrap_i64]; omega)
  have HF := hide hF
  clear hT hP hP2 hF hu hv ht
  have L0 := hide (Lv.start w)
  go_enter Try.func23, Try.ntmps23
  go_wp2_with fail
  refine Lv.same (within3_any lo 0 hi _) ?_
  rw [H.out]
  go_wp2_with fail
  refine Lv.call (refPlace_any a b c _) (((((L0.out.put _ _).put _ _).put _ _).put _ _).put _ _) ?_
  intro w1 L1'
  have L1 := hide L1'
  have F1 := L1'.at
  clear L1'
  simp only [AllAt, CellsAt, updL, List.map, Nat.zero_add, Nat.reduceAdd, and_true, World.size_alloc, World.heap_drewN, heap_drew, size_set, Nat.add_eq_left, Nat.left_eq_add, Nat.add_right_cancel_iff, ne_up2, ne_dn2, ne_up3, ne_dn3, ne_up4, ne_dn4, Nat.reduceEqDiff, Nat.one_ne_zero, Nat.succ_ne_zero, Nat.zero_ne_one, reduceIte, List.set_cons_zero, List.set_cons_succ] at F1
  rw [HP.out]
  go_wp2_with fail
  refine Lv.call (refPlace_any x y z _) L1.out ?_
  intro w2 L2'
  have L2 := hide L2'
  have F2 := L2'.at
  clear L2' F1
  simp only [AllAt, CellsAt, updL, List.map, Nat.zero_add, Nat.reduceAdd, and_true, World.size_alloc, World.heap_drewN, heap_drew, size_set, Nat.add_eq_left, Nat.left_eq_add, Nat.add_right_cancel_iff, ne_up2, ne_dn2, ne_up3, ne_dn3, ne_up4, ne_dn4, Nat.reduceEqDiff, Nat.one_ne_zero, Nat.succ_ne_zero, Nat.zero_ne_one, reduceIte, List.set_cons_zero, List.set_cons_succ] at F2
  rw [HP2.out]
  go_wp2_with fail
  refine Lv.call (refMinus_any x y z a b c u v t _ HU.out HV.out HW.out) L2.out ?_
  intro w3 L3'
  have L3 := hide L3'
  have F3 := L3'.at
  clear L3' F2
  simp only [AllAt, CellsAt, updL, List.map, Nat.zero_add, Nat.reduceAdd, and_true, World.size_alloc, World.heap_drewN, heap_drew, size_set, Nat.add_eq_left, Nat.left_eq_add, Nat.add_right_cancel_iff, ne_up2, ne_dn2, ne_up3, ne_dn3, ne_up4, ne_dn4, Nat.reduceEqDiff, Nat.one_ne_zero, Nat.succ_ne_zero, Nat.zero_ne_one, reduceIte, List.set_cons_zero, List.set_cons_succ] at F3
  go_wp2_with fail
  refine Lv.call (refSize_any u v t 1000000 _ (by omega)) (L3.out.put _ _) ?_
  intro w4 L4'
  have L4 := hide L4'
  have F4 := L4'.at
  clear L4' F3
  simp only [AllAt, CellsAt, updL, List.map, Nat.zero_add, Nat.reduceAdd, and_true, World.size_alloc, World.heap_drewN, heap_drew, size_set, Nat.add_eq_left, Nat.left_eq_add, Nat.add_right_cancel_iff, ne_up2, ne_dn2, ne_up3, ne_dn3, ne_up4, ne_dn4, Nat.reduceEqDiff, Nat.one_ne_zero, Nat.succ_ne_zero, Nat.zero_ne_one, reduceIte, List.set_cons_zero, List.set_cons_succ] at F4
  rw [HF.out]
  go_wp2
  refine bodyPost_ret (v := .tuple #[.agg #[.int .i64 0, .int .i64 0, .int .i64 0, .int .i64 0, .int .i64 0, .int .i64 0], .int .i64 11]) (by simp [results, Try.results23, go_sem, F4]) rfl ⟨rfl, ?_⟩
  repeat (first | (with_reducible exact L4.out.below) | refine Below.setCell ?_ (by first | omega | (simp; done) | (simp; omega)) _ | refine Below.alloc ?_ (by first | omega | (simp; done) | (simp; omega)) _ | refine below_drewN ?_ _ | refine Below.drew ?_)
set_option maxHeartbeats 4000000 in
set_option maxRecDepth 100000 in
theorem refPull_ok (lo hi a b c x y z u v t : Int) (r : Nat) (w : World) (hT : tenB lo hi 10000000000 = true) (hP : plE a b c = 0) (hP2 : plE x y z = 0) (hu : x - a = u) (hv : y - b = v) (ht : z - c = t) (hF : inV u v t 1000000 = true) (hne : ¬ (u = 0 ∧ v = 0 ∧ t = 0)) (hr : IsRoot (sq3 u v t).toNat 2 r) :
    Calls Try.prog 23 #[.agg #[.int .i64 lo, .int .i64 hi], .agg #[.int .i64 a, .int .i64 b, .int .i64 c], .agg #[.int .i64 x, .int .i64 y, .int .i64 z]] w fun e w' => e = .returned (pullV lo hi u v t r (upR r (sq3 u v t))) ∧ Below w.heap.size w w' := by
  have hw3 : (-1000000 ≤ u ∧ u ≤ 1000000) ∧ (-1000000 ≤ v ∧ v ≤ 1000000) ∧ (-1000000 ≤ t ∧ t ≤ 1000000) := by
    unfold inV inB at hF
    simpa only [Bool.and_eq_true, decide_eq_true_eq] using hF
  obtain ⟨w1', w2', w3'⟩ := hw3
  have s1 := sq_in w1'
  have s2 := sq_in w2'
  have s3 := sq_in w3'
  have hsp := sq3_pos hne
  have hr1 := root_pos hsp hr
  have hrl := root_le hr
  obtain ⟨s, hs⟩ : ∃ s : Nat, s = (sq3 u v t).toNat := ⟨_, rfl⟩
  have hse : 10000 * (u * u + v * v + t * t) = (s : Int) := by rw [hs]; unfold sq3 at hsp ⊢; omega
  have hse2 : sq3 u v t = (s : Int) := by rw [hs]; omega
  have hs4 : 1 ≤ s ∧ s ≤ 30000000000000000 := by omega
  rw [← hs] at hr hrl
  have hr2 : (r : Int) ≤ 1000000000 := by
    rcases Nat.lt_or_ge 1000000000 r with h | h
    · have := Nat.mul_le_mul (Nat.le_of_lt h) (Nat.le_of_lt h)
      omega
    · omega
  have hr3 : (0 : Int) ≤ (r : Int) * r ∧ (r : Int) * r ≤ 30000000000000000 := by
    have : ((r * r : Nat) : Int) = (r : Int) * r := Int.natCast_mul r r
    omega
  have hS1 : (r : Int) ≤ upR r (sq3 u v t) ∧ upR r (sq3 u v t) ≤ r + 1 := by unfold upR; split <;> omega
  have hU : upR r (sq3 u v t) = if (r : Int) * r < (s : Int) then (r : Int) + 1 else r := by unfold upR; rw [hse2]
  obtain ⟨S, hSS⟩ : ∃ S, S = upR r (sq3 u v t) := ⟨_, rfl⟩
  rw [← hSS] at hS1 hU ⊢
  obtain ⟨q1, q2, q3⟩ := ten_ok hT
  have C1 := hide (fun W => refComp_any lo hi u r S W (by omega) (by omega) w1' (by omega) (by omega))
  have C2 := hide (fun W => refComp_any lo hi v r S W (by omega) (by omega) w2' (by omega) (by omega))
  have C3 := hide (fun W => refComp_any lo hi t r S W (by omega) (by omega) w3' (by omega) (by omega))
  unfold pullV
  obtain ⟨x0, hx0⟩ : ∃ x, x = cmpL lo hi u r S := ⟨_, rfl⟩
  obtain ⟨y0, hy0⟩ : ∃ x, x = cmpH lo hi u r S := ⟨_, rfl⟩
  obtain ⟨x1, hx1⟩ : ∃ x, x = cmpL lo hi v r S := ⟨_, rfl⟩
  obtain ⟨y1, hy1⟩ : ∃ x, x = cmpH lo hi v r S := ⟨_, rfl⟩
  obtain ⟨x2, hx2⟩ : ∃ x, x = cmpL lo hi t r S := ⟨_, rfl⟩
  obtain ⟨y2, hy2⟩ : ∃ x, x = cmpH lo hi t r S := ⟨_, rfl⟩
  rw [← hx0, ← hy0] at C1
  rw [← hx1, ← hy1] at C2
  rw [← hx2, ← hy2] at C3
  rw [← hx0, ← hy0, ← hx1, ← hy1, ← hx2, ← hy2]
  have HSE := hide hse
  have HR := hide hr
  have HUU := hide hU
  have bs : ((10000 * (u * u + v * v + t * t) : Int) == 0) = false := by rw [hse, beq_eq_false_iff_ne]; omega
  clear hne hr hrl hs hse hse2 hsp hSS hx0 hy0 hx1 hy1 hx2 hy2 hU
  obtain ⟨t1, t2, t3⟩ := ten_ok hT
  obtain ⟨p1, p2, p3⟩ := place3 hP
  obtain ⟨p4, p5, p6⟩ := place3 hP2
  have H := hide (inR_yes (n := lo) (lo := 0) (hi := hi) ⟨t1, t2⟩)
  have HP := hide (plE_yes hP)
  have HP2 := hide (plE_yes hP2)
  have HU : Hid (IntKind.i64.wrap (x - a) = u) := hide (by rw [IntKind.wrap_i64]; omega)
  have HV : Hid (IntKind.i64.wrap (y - b) = v) := hide (by rw [IntKind.wrap_i64]; omega)
  have HW : Hid (IntKind.i64.wrap (z - c) = t) := hide (by rw [IntKind.wrap_i64]; omega)
  have HF := hide hF
  clear hT hP hP2 hF hu hv ht
  have L0 := hide (Lv.start w)
  go_enter Try.func23, Try.ntmps23
  go_wp2_with fail
  refine Lv.same (within3_any lo 0 hi _) ?_
  rw [H.out]
  go_wp2_with fail
  refine Lv.call (refPlace_any a b c _) (((((L0.out.put _ _).put _ _).put _ _).put _ _).put _ _) ?_
  intro w1 L1'
  have L1 := hide L1'
  have F1 := L1'.at
  clear L1'
  simp only [AllAt, CellsAt, updL, List.map, Nat.zero_add, Nat.reduceAdd, and_true, World.size_alloc, World.heap_drewN, heap_drew, size_set, Nat.add_eq_left, Nat.left_eq_add, Nat.add_right_cancel_iff, ne_up2, ne_dn2, ne_up3, ne_dn3, ne_up4, ne_dn4, Nat.reduceEqDiff, Nat.one_ne_zero, Nat.succ_ne_zero, Nat.zero_ne_one, reduceIte, List.set_cons_zero, List.set_cons_succ] at F1
  rw [HP.out]
  go_wp2_with fail
  refine Lv.call (refPlace_any x y z _) L1.out ?_
  intro w2 L2'
  have L2 := hide L2'
  have F2 := L2'.at
  clear L2' F1
  simp only [AllAt, CellsAt, updL, List.map, Nat.zero_add, Nat.reduceAdd, and_true, World.size_alloc, World.heap_drewN, heap_drew, size_set, Nat.add_eq_left, Nat.left_eq_add, Nat.add_right_cancel_iff, ne_up2, ne_dn2, ne_up3, ne_dn3, ne_up4, ne_dn4, Nat.reduceEqDiff, Nat.one_ne_zero, Nat.succ_ne_zero, Nat.zero_ne_one, reduceIte, List.set_cons_zero, List.set_cons_succ] at F2
  rw [HP2.out]
  go_wp2_with fail
  refine Lv.call (refMinus_any x y z a b c u v t _ HU.out HV.out HW.out) L2.out ?_
  intro w3 L3'
  have L3 := hide L3'
  have F3 := L3'.at
  clear L3' F2
  simp only [AllAt, CellsAt, updL, List.map, Nat.zero_add, Nat.reduceAdd, and_true, World.size_alloc, World.heap_drewN, heap_drew, size_set, Nat.add_eq_left, Nat.left_eq_add, Nat.add_right_cancel_iff, ne_up2, ne_dn2, ne_up3, ne_dn3, ne_up4, ne_dn4, Nat.reduceEqDiff, Nat.one_ne_zero, Nat.succ_ne_zero, Nat.zero_ne_one, reduceIte, List.set_cons_zero, List.set_cons_succ] at F3
  go_wp2_with fail
  refine Lv.call (refSize_any u v t 1000000 _ (by omega)) (L3.out.put _ _) ?_
  intro w4 L4'
  have L4 := hide L4'
  have F4 := L4'.at
  clear L4' F3
  simp only [AllAt, CellsAt, updL, List.map, Nat.zero_add, Nat.reduceAdd, and_true, World.size_alloc, World.heap_drewN, heap_drew, size_set, Nat.add_eq_left, Nat.left_eq_add, Nat.add_right_cancel_iff, ne_up2, ne_dn2, ne_up3, ne_dn3, ne_up4, ne_dn4, Nat.reduceEqDiff, Nat.one_ne_zero, Nat.succ_ne_zero, Nat.zero_ne_one, reduceIte, List.set_cons_zero, List.set_cons_succ] at F4
  rw [HF.out]
  go_wp2_with fail
  rw [HSE.out]
  refine (refRoot_any s 2 _ (by omega) (by omega)).mono ?_
  rintro e w5 ⟨q, rfl, hq, rfl⟩
  obtain rfl : r = q := HR.out.unique hq
  clear hq bs
  by_cases hlt : (r : Int) * r < (s : Int)
  · have hS : S = (r : Int) + 1 := HUU.out.trans (if_pos hlt)
    subst hS
    have L5 := hide (L4.out.put [.int .i64 (r : Int), .int .i64 ((r : Int) + 1)] 40)
    go_wp2
    have h5 := L5.out
    simp only [World.size_alloc] at h5
    have L6 : Hid (Lv w _ [(w.heap.size + 1 + 1 + 1 + 1, 43, [.int .i64 0, .int .i64 0, .int .i64 0, .int .i64 0, .int .i64 0, .int .i64 0]), (w4.heap.size, 40, [.int .i64 r, .int .i64 ((r : Int) + 1)]), (w3.heap.size, 30, [.int .i64 u, .int .i64 v, .int .i64 t]), (w.heap.size + 1 + 1 + 1, 43, [.int .i64 0, .int .i64 0, .int .i64 0, .int .i64 0, .int .i64 0, .int .i64 0]), (w.heap.size, 40, [.int .i64 lo, .int .i64 hi])]) := hide (h5.of (by simp))
    clear h5
    have F6 := L6.out.at; simp only [AllAt, CellsAt, updL, List.map, Nat.zero_add, Nat.reduceAdd, and_true, World.size_alloc, World.heap_drewN, heap_drew, size_set, Nat.add_eq_left, Nat.left_eq_add, Nat.add_right_cancel_iff, ne_up2, ne_dn2, ne_up3, ne_dn3, ne_up4, ne_dn4, Nat.reduceEqDiff, Nat.one_ne_zero, Nat.succ_ne_zero, Nat.zero_ne_one, reduceIte, List.set_cons_zero, List.set_cons_succ] at F6
    have n6a := (L3.out.blk _ List.mem_cons_self).lt
    simp only [World.size_alloc] at n6a
    have n6b := (L4.out.blk _ List.mem_cons_self).lt
    simp only at n6b
    have n6 : w.heap.size + 1 + 1 + 1 + 1 < w3.heap.size ∧ w3.heap.size < w4.heap.size := ⟨n6a, n6b⟩
    have HNE : Hid (∀ x ∈ [(w4.heap.size, 40, [Value.int .i64 r, .int .i64 ((r : Int) + 1)]), (w3.heap.size, 30, [.int .i64 u, .int .i64 v, .int .i64 t]), (w.heap.size + 1 + 1 + 1, 43, [.int .i64 0, .int .i64 0, .int .i64 0, .int .i64 0, .int .i64 0, .int .i64 0]), (w.heap.size, 40, [.int .i64 lo, .int .i64 hi])], ¬ x.1 = w.heap.size + 1 + 1 + 1 + 1) := hide (fun x hx => by
      simp only [List.mem_cons, List.not_mem_nil, or_false] at hx
      rcases hx with rfl | rfl | rfl | rfl <;> simp only <;> omega)
    have m6 : (¬ w4.heap.size = w.heap.size + 1 + 1 + 1 + 1 ∧ ¬ w.heap.size + 1 + 1 + 1 + 1 = w4.heap.size) ∧ (¬ w3.heap.size = w.heap.size + 1 + 1 + 1 + 1 ∧ ¬ w.heap.size + 1 + 1 + 1 + 1 = w3.heap.size) := by omega
    have m7 : ¬ w.heap.size = w.heap.size + 1 + 1 + 1 + 1 ∧ ¬ w.heap.size + 1 + 1 + 1 + 1 = w.heap.size := by omega
    clear F4
    refine wp_loop_rounds 4 ?_
    rw [rounds_succ]
    go_wp2
    (first | (go_region_held3 (fun w' => w'.cell? ⟨w.heap.size, 0, none⟩ = some (.int .i64 lo) ∧ w'.cell? ⟨w.heap.size, 1, none⟩ = some (.int .i64 hi) ∧ w'.cell? ⟨w3.heap.size, 0, none⟩ = some (.int .i64 u) ∧ w'.cell? ⟨w3.heap.size, 1, none⟩ = some (.int .i64 v) ∧ w'.cell? ⟨w3.heap.size, 2, none⟩ = some (.int .i64 t) ∧ w'.cell? ⟨w4.heap.size, 0, none⟩ = some (.int .i64 r) ∧ w'.cell? ⟨w4.heap.size, 1, none⟩ = some (.int .i64 ((r : Int) + 1)))
      (go_keep)
      (first | (go_at_call 86; refine Lv.call (C1.out _) L6.out.drew ?_; intro w7 L7'; have L7 := hide L7'; have F7 := L7'.at; clear L7'; simp only [AllAt, CellsAt, updL, List.map, Nat.zero_add, Nat.reduceAdd, and_true, World.size_alloc, World.heap_drewN, heap_drew, size_set, Nat.add_eq_left, Nat.left_eq_add, Nat.add_right_cancel_iff, ne_up2, ne_dn2, ne_up3, ne_dn3, ne_up4, ne_dn4, Nat.reduceEqDiff, Nat.one_ne_zero, Nat.succ_ne_zero, Nat.zero_ne_one, reduceIte, List.set_cons_zero, List.set_cons_succ] at F7) | fail)) | fail)
    have L8 := hide (L7.out.head2 0 1 (.int .i64 x0) (.int .i64 y0) (by omega) HNE.out)
    have F8 := L8.out.at; simp only [AllAt, CellsAt, updL, List.map, Nat.zero_add, Nat.reduceAdd, and_true, World.size_alloc, World.heap_drewN, heap_drew, size_set, Nat.add_eq_left, Nat.left_eq_add, Nat.add_right_cancel_iff, ne_up2, ne_dn2, ne_up3, ne_dn3, ne_up4, ne_dn4, Nat.reduceEqDiff, Nat.one_ne_zero, Nat.succ_ne_zero, Nat.zero_ne_one, reduceIte, List.set_cons_zero, List.set_cons_succ] at F8
    go_wp2
    clear F6 F7
    rw [rounds_succ]
    go_wp2
    (first | (go_region_held3 (fun w' => w'.cell? ⟨w.heap.size, 0, none⟩ = some (.int .i64 lo) ∧ w'.cell? ⟨w.heap.size, 1, none⟩ = some (.int .i64 hi) ∧ w'.cell? ⟨w3.heap.size, 0, none⟩ = some (.int .i64 u) ∧ w'.cell? ⟨w3.heap.size, 1, none⟩ = some (.int .i64 v) ∧ w'.cell? ⟨w3.heap.size, 2, none⟩ = some (.int .i64 t) ∧ w'.cell? ⟨w4.heap.size, 0, none⟩ = some (.int .i64 r) ∧ w'.cell? ⟨w4.heap.size, 1, none⟩ = some (.int .i64 ((r : Int) + 1)))
      (go_keep)
      (first | (go_at_call 86; refine Lv.call (C2.out _) L8.out.drew ?_; intro w9 L9'; have L9 := hide L9'; have F9 := L9'.at; clear L9'; simp only [AllAt, CellsAt, updL, List.map, Nat.zero_add, Nat.reduceAdd, and_true, World.size_alloc, World.heap_drewN, heap_drew, size_set, Nat.add_eq_left, Nat.left_eq_add, Nat.add_right_cancel_iff, ne_up2, ne_dn2, ne_up3, ne_dn3, ne_up4, ne_dn4, Nat.reduceEqDiff, Nat.one_ne_zero, Nat.succ_ne_zero, Nat.zero_ne_one, reduceIte, List.set_cons_zero, List.set_cons_succ] at F9) | fail)) | fail)
    have L10 := hide (L9.out.head2 2 3 (.int .i64 x1) (.int .i64 y1) (by omega) HNE.out)
    have F10 := L10.out.at; simp only [AllAt, CellsAt, updL, List.map, Nat.zero_add, Nat.reduceAdd, and_true, World.size_alloc, World.heap_drewN, heap_drew, size_set, Nat.add_eq_left, Nat.left_eq_add, Nat.add_right_cancel_iff, ne_up2, ne_dn2, ne_up3, ne_dn3, ne_up4, ne_dn4, Nat.reduceEqDiff, Nat.one_ne_zero, Nat.succ_ne_zero, Nat.zero_ne_one, reduceIte, List.set_cons_zero, List.set_cons_succ] at F10
    go_wp2
    clear F8 F9
    rw [rounds_succ]
    go_wp2
    (first | (go_region_held3 (fun w' => w'.cell? ⟨w.heap.size, 0, none⟩ = some (.int .i64 lo) ∧ w'.cell? ⟨w.heap.size, 1, none⟩ = some (.int .i64 hi) ∧ w'.cell? ⟨w3.heap.size, 0, none⟩ = some (.int .i64 u) ∧ w'.cell? ⟨w3.heap.size, 1, none⟩ = some (.int .i64 v) ∧ w'.cell? ⟨w3.heap.size, 2, none⟩ = some (.int .i64 t) ∧ w'.cell? ⟨w4.heap.size, 0, none⟩ = some (.int .i64 r) ∧ w'.cell? ⟨w4.heap.size, 1, none⟩ = some (.int .i64 ((r : Int) + 1)))
      (go_keep)
      (first | (go_at_call 86; refine Lv.call (C3.out _) L10.out.drew ?_; intro w11 L11'; have L11 := hide L11'; have F11 := L11'.at; clear L11'; simp only [AllAt, CellsAt, updL, List.map, Nat.zero_add, Nat.reduceAdd, and_true, World.size_alloc, World.heap_drewN, heap_drew, size_set, Nat.add_eq_left, Nat.left_eq_add, Nat.add_right_cancel_iff, ne_up2, ne_dn2, ne_up3, ne_dn3, ne_up4, ne_dn4, Nat.reduceEqDiff, Nat.one_ne_zero, Nat.succ_ne_zero, Nat.zero_ne_one, reduceIte, List.set_cons_zero, List.set_cons_succ] at F11) | fail)) | fail)
    have L12 := hide (L11.out.head2 4 5 (.int .i64 x2) (.int .i64 y2) (by omega) HNE.out)
    have F12 := L12.out.at; simp only [AllAt, CellsAt, updL, List.map, Nat.zero_add, Nat.reduceAdd, and_true, World.size_alloc, World.heap_drewN, heap_drew, size_set, Nat.add_eq_left, Nat.left_eq_add, Nat.add_right_cancel_iff, ne_up2, ne_dn2, ne_up3, ne_dn3, ne_up4, ne_dn4, Nat.reduceEqDiff, Nat.one_ne_zero, Nat.succ_ne_zero, Nat.zero_ne_one, reduceIte, List.set_cons_zero, List.set_cons_succ] at F12
    go_wp2
    clear F10 F11
    rw [rounds_succ]
    go_wp2
    refine bodyPost_ret (v := .tuple #[.agg #[.int .i64 x0, .int .i64 y0, .int .i64 x1, .int .i64 y1, .int .i64 x2, .int .i64 y2], .int .i64 0]) (by simp [results, Try.results23, go_sem, F12]) rfl ⟨rfl, ?_⟩
    repeat (first | (with_reducible exact L12.out.below) | refine Below.setCell ?_ (by first | omega | (simp; done) | (simp; omega)) _ | refine Below.alloc ?_ (by first | omega | (simp; done) | (simp; omega)) _ | refine below_drewN ?_ _ | refine Below.drew ?_)
  · have hS : S = (r : Int) := HUU.out.trans (if_neg hlt)
    subst hS
    have L5 := hide (L4.out.put [.int .i64 (r : Int), .int .i64 (r : Int)] 40)
    go_wp2
    have h5 := L5.out
    simp only [World.size_alloc] at h5
    have L6 : Hid (Lv w _ [(w.heap.size + 1 + 1 + 1 + 1, 43, [.int .i64 0, .int .i64 0, .int .i64 0, .int .i64 0, .int .i64 0, .int .i64 0]), (w4.heap.size, 40, [.int .i64 r, .int .i64 ((r : Int))]), (w3.heap.size, 30, [.int .i64 u, .int .i64 v, .int .i64 t]), (w.heap.size + 1 + 1 + 1, 43, [.int .i64 0, .int .i64 0, .int .i64 0, .int .i64 0, .int .i64 0, .int .i64 0]), (w.heap.size, 40, [.int .i64 lo, .int .i64 hi])]) := hide (h5.of (by simp))
    clear h5
    have F6 := L6.out.at; simp only [AllAt, CellsAt, updL, List.map, Nat.zero_add, Nat.reduceAdd, and_true, World.size_alloc, World.heap_drewN, heap_drew, size_set, Nat.add_eq_left, Nat.left_eq_add, Nat.add_right_cancel_iff, ne_up2, ne_dn2, ne_up3, ne_dn3, ne_up4, ne_dn4, Nat.reduceEqDiff, Nat.one_ne_zero, Nat.succ_ne_zero, Nat.zero_ne_one, reduceIte, List.set_cons_zero, List.set_cons_succ] at F6
    have n6a := (L3.out.blk _ List.mem_cons_self).lt
    simp only [World.size_alloc] at n6a
    have n6b := (L4.out.blk _ List.mem_cons_self).lt
    simp only at n6b
    have n6 : w.heap.size + 1 + 1 + 1 + 1 < w3.heap.size ∧ w3.heap.size < w4.heap.size := ⟨n6a, n6b⟩
    have HNE : Hid (∀ x ∈ [(w4.heap.size, 40, [Value.int .i64 r, .int .i64 ((r : Int))]), (w3.heap.size, 30, [.int .i64 u, .int .i64 v, .int .i64 t]), (w.heap.size + 1 + 1 + 1, 43, [.int .i64 0, .int .i64 0, .int .i64 0, .int .i64 0, .int .i64 0, .int .i64 0]), (w.heap.size, 40, [.int .i64 lo, .int .i64 hi])], ¬ x.1 = w.heap.size + 1 + 1 + 1 + 1) := hide (fun x hx => by
      simp only [List.mem_cons, List.not_mem_nil, or_false] at hx
      rcases hx with rfl | rfl | rfl | rfl <;> simp only <;> omega)
    have m6 : (¬ w4.heap.size = w.heap.size + 1 + 1 + 1 + 1 ∧ ¬ w.heap.size + 1 + 1 + 1 + 1 = w4.heap.size) ∧ (¬ w3.heap.size = w.heap.size + 1 + 1 + 1 + 1 ∧ ¬ w.heap.size + 1 + 1 + 1 + 1 = w3.heap.size) := by omega
    have m7 : ¬ w.heap.size = w.heap.size + 1 + 1 + 1 + 1 ∧ ¬ w.heap.size + 1 + 1 + 1 + 1 = w.heap.size := by omega
    clear F4
    refine wp_loop_rounds 4 ?_
    rw [rounds_succ]
    go_wp2
    (first | (go_region_held3 (fun w' => w'.cell? ⟨w.heap.size, 0, none⟩ = some (.int .i64 lo) ∧ w'.cell? ⟨w.heap.size, 1, none⟩ = some (.int .i64 hi) ∧ w'.cell? ⟨w3.heap.size, 0, none⟩ = some (.int .i64 u) ∧ w'.cell? ⟨w3.heap.size, 1, none⟩ = some (.int .i64 v) ∧ w'.cell? ⟨w3.heap.size, 2, none⟩ = some (.int .i64 t) ∧ w'.cell? ⟨w4.heap.size, 0, none⟩ = some (.int .i64 r) ∧ w'.cell? ⟨w4.heap.size, 1, none⟩ = some (.int .i64 ((r : Int))))
      (go_keep)
      (first | (go_at_call 86; refine Lv.call (C1.out _) L6.out.drew ?_; intro w7 L7'; have L7 := hide L7'; have F7 := L7'.at; clear L7'; simp only [AllAt, CellsAt, updL, List.map, Nat.zero_add, Nat.reduceAdd, and_true, World.size_alloc, World.heap_drewN, heap_drew, size_set, Nat.add_eq_left, Nat.left_eq_add, Nat.add_right_cancel_iff, ne_up2, ne_dn2, ne_up3, ne_dn3, ne_up4, ne_dn4, Nat.reduceEqDiff, Nat.one_ne_zero, Nat.succ_ne_zero, Nat.zero_ne_one, reduceIte, List.set_cons_zero, List.set_cons_succ] at F7) | fail)) | fail)
    have L8 := hide (L7.out.head2 0 1 (.int .i64 x0) (.int .i64 y0) (by omega) HNE.out)
    have F8 := L8.out.at; simp only [AllAt, CellsAt, updL, List.map, Nat.zero_add, Nat.reduceAdd, and_true, World.size_alloc, World.heap_drewN, heap_drew, size_set, Nat.add_eq_left, Nat.left_eq_add, Nat.add_right_cancel_iff, ne_up2, ne_dn2, ne_up3, ne_dn3, ne_up4, ne_dn4, Nat.reduceEqDiff, Nat.one_ne_zero, Nat.succ_ne_zero, Nat.zero_ne_one, reduceIte, List.set_cons_zero, List.set_cons_succ] at F8
    go_wp2
    clear F6 F7
    rw [rounds_succ]
    go_wp2
    (first | (go_region_held3 (fun w' => w'.cell? ⟨w.heap.size, 0, none⟩ = some (.int .i64 lo) ∧ w'.cell? ⟨w.heap.size, 1, none⟩ = some (.int .i64 hi) ∧ w'.cell? ⟨w3.heap.size, 0, none⟩ = some (.int .i64 u) ∧ w'.cell? ⟨w3.heap.size, 1, none⟩ = some (.int .i64 v) ∧ w'.cell? ⟨w3.heap.size, 2, none⟩ = some (.int .i64 t) ∧ w'.cell? ⟨w4.heap.size, 0, none⟩ = some (.int .i64 r) ∧ w'.cell? ⟨w4.heap.size, 1, none⟩ = some (.int .i64 ((r : Int))))
      (go_keep)
      (first | (go_at_call 86; refine Lv.call (C2.out _) L8.out.drew ?_; intro w9 L9'; have L9 := hide L9'; have F9 := L9'.at; clear L9'; simp only [AllAt, CellsAt, updL, List.map, Nat.zero_add, Nat.reduceAdd, and_true, World.size_alloc, World.heap_drewN, heap_drew, size_set, Nat.add_eq_left, Nat.left_eq_add, Nat.add_right_cancel_iff, ne_up2, ne_dn2, ne_up3, ne_dn3, ne_up4, ne_dn4, Nat.reduceEqDiff, Nat.one_ne_zero, Nat.succ_ne_zero, Nat.zero_ne_one, reduceIte, List.set_cons_zero, List.set_cons_succ] at F9) | fail)) | fail)
    have L10 := hide (L9.out.head2 2 3 (.int .i64 x1) (.int .i64 y1) (by omega) HNE.out)
    have F10 := L10.out.at; simp only [AllAt, CellsAt, updL, List.map, Nat.zero_add, Nat.reduceAdd, and_true, World.size_alloc, World.heap_drewN, heap_drew, size_set, Nat.add_eq_left, Nat.left_eq_add, Nat.add_right_cancel_iff, ne_up2, ne_dn2, ne_up3, ne_dn3, ne_up4, ne_dn4, Nat.reduceEqDiff, Nat.one_ne_zero, Nat.succ_ne_zero, Nat.zero_ne_one, reduceIte, List.set_cons_zero, List.set_cons_succ] at F10
    go_wp2
    clear F8 F9
    rw [rounds_succ]
    go_wp2
    (first | (go_region_held3 (fun w' => w'.cell? ⟨w.heap.size, 0, none⟩ = some (.int .i64 lo) ∧ w'.cell? ⟨w.heap.size, 1, none⟩ = some (.int .i64 hi) ∧ w'.cell? ⟨w3.heap.size, 0, none⟩ = some (.int .i64 u) ∧ w'.cell? ⟨w3.heap.size, 1, none⟩ = some (.int .i64 v) ∧ w'.cell? ⟨w3.heap.size, 2, none⟩ = some (.int .i64 t) ∧ w'.cell? ⟨w4.heap.size, 0, none⟩ = some (.int .i64 r) ∧ w'.cell? ⟨w4.heap.size, 1, none⟩ = some (.int .i64 ((r : Int))))
      (go_keep)
      (first | (go_at_call 86; refine Lv.call (C3.out _) L10.out.drew ?_; intro w11 L11'; have L11 := hide L11'; have F11 := L11'.at; clear L11'; simp only [AllAt, CellsAt, updL, List.map, Nat.zero_add, Nat.reduceAdd, and_true, World.size_alloc, World.heap_drewN, heap_drew, size_set, Nat.add_eq_left, Nat.left_eq_add, Nat.add_right_cancel_iff, ne_up2, ne_dn2, ne_up3, ne_dn3, ne_up4, ne_dn4, Nat.reduceEqDiff, Nat.one_ne_zero, Nat.succ_ne_zero, Nat.zero_ne_one, reduceIte, List.set_cons_zero, List.set_cons_succ] at F11) | fail)) | fail)
    have L12 := hide (L11.out.head2 4 5 (.int .i64 x2) (.int .i64 y2) (by omega) HNE.out)
    have F12 := L12.out.at; simp only [AllAt, CellsAt, updL, List.map, Nat.zero_add, Nat.reduceAdd, and_true, World.size_alloc, World.heap_drewN, heap_drew, size_set, Nat.add_eq_left, Nat.left_eq_add, Nat.add_right_cancel_iff, ne_up2, ne_dn2, ne_up3, ne_dn3, ne_up4, ne_dn4, Nat.reduceEqDiff, Nat.one_ne_zero, Nat.succ_ne_zero, Nat.zero_ne_one, reduceIte, List.set_cons_zero, List.set_cons_succ] at F12
    go_wp2
    clear F10 F11
    rw [rounds_succ]
    go_wp2
    refine bodyPost_ret (v := .tuple #[.agg #[.int .i64 x0, .int .i64 y0, .int .i64 x1, .int .i64 y1, .int .i64 x2, .int .i64 y2], .int .i64 0]) (by simp [results, Try.results23, go_sem, F12]) rfl ⟨rfl, ?_⟩
    repeat (first | (with_reducible exact L12.out.below) | refine Below.setCell ?_ (by first | omega | (simp; done) | (simp; omega)) _ | refine Below.alloc ?_ (by first | omega | (simp; done) | (simp; omega)) _ | refine below_drewN ?_ _ | refine Below.drew ?_)
end Go.Proofs.Ytdhbjklbgdnfmaa
