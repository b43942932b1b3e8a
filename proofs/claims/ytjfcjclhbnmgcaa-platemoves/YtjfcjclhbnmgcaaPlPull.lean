/- Contracts of plate.PullOf. Every bound is a premise of the theorem that bears it. -/
import Derived.Test.YtjfcjclhbnmgcaaPlArr
import Derived.Test.YtjfcjclhbnmgcaaPlEq
import Derived.Deep.DeepCutAuto
namespace Go.Proofs.Ytjfcjclhbnmgcaa
open Go.RowKit
set_option linter.unusedVariables false
set_option linter.unusedSimpArgs false

def rg6 (a b c d e f : Int) : Value := .agg #[.int .i64 a, .int .i64 b, .int .i64 c, .int .i64 d, .int .i64 e, .int .i64 f]
set_option maxHeartbeats 4000000 in
set_option maxRecDepth 100000 in
theorem pull_slack (lo hi a b c x y z : Int) (w : World) (hT : tenB lo hi 10000000000 = false) :
    Calls Try.prog 66 #[.agg #[.int .i64 lo, .int .i64 hi], .agg #[.int .i64 a, .int .i64 b, .int .i64 c], .agg #[.int .i64 x, .int .i64 y, .int .i64 z]] w fun e w' => e = .returned (.tuple #[.agg #[.int .i64 0, .int .i64 0, .int .i64 0, .int .i64 0, .int .i64 0, .int .i64 0], .int .i64 2]) ∧ Below w.heap.size w w' := by
  have HT := hide hT
  clear hT
  have L0 := hide (Lv.start w)
  go_enter Try.func66, Try.ntmps66
  go_wp2_with fail
  refine Lv.call (plTension_any lo hi 10000000000 _) ((((L0.out.put _ _).put _ _).put _ _).put _ _) ?_
  intro w1 L1'
  have L1 := hide L1'
  have F1 := L1'.at
  clear L1'
  simp only [AllAt, CellsAt, updL, List.map, Nat.zero_add, Nat.reduceAdd, and_true, World.size_alloc, World.heap_drewN, heap_drew, size_set, Nat.add_eq_left, Nat.left_eq_add, Nat.add_right_cancel_iff, ne_up2, ne_dn2, ne_up3, ne_dn3, ne_up4, ne_dn4, Nat.reduceEqDiff, Nat.one_ne_zero, Nat.succ_ne_zero, Nat.zero_ne_one, reduceIte, List.set_cons_zero, List.set_cons_succ] at F1
  rw [HT.out]
  go_wp2
  refine bodyPost_ret (v := .tuple #[.agg #[.int .i64 0, .int .i64 0, .int .i64 0, .int .i64 0, .int .i64 0, .int .i64 0], .int .i64 2]) (by simp [results, Try.results66, go_sem, F1]) rfl ⟨rfl, ?_⟩
  repeat (first | (with_reducible exact L1.out.below) | refine Below.setCell ?_ (by first | omega | (simp; done) | (simp; omega)) _ | refine Below.alloc ?_ (by first | omega | (simp; done) | (simp; omega)) _ | refine below_drewN ?_ _ | refine Below.drew ?_)
set_option maxHeartbeats 4000000 in
set_option maxRecDepth 100000 in
theorem pull_from (lo hi a b c x y z : Int) (w : World) (hT : tenB lo hi 10000000000 = true) (hP : plE a b c = 2) :
    Calls Try.prog 66 #[.agg #[.int .i64 lo, .int .i64 hi], .agg #[.int .i64 a, .int .i64 b, .int .i64 c], .agg #[.int .i64 x, .int .i64 y, .int .i64 z]] w fun e w' => e = .returned (.tuple #[.agg #[.int .i64 0, .int .i64 0, .int .i64 0, .int .i64 0, .int .i64 0, .int .i64 0], .int .i64 2]) ∧ Below w.heap.size w w' := by
  have HT := hide hT
  have HP := hide hP
  clear hT hP
  have j0 : ∀ w, (Instr.index 147 (.agg #[.int .i64 a, .int .i64 b, .int .i64 c, .int .i64 x, .int .i64 y, .int .i64 z]) (.int .i64 0)).run Try.prog w = .ok (.agg #[.int .i64 a, .int .i64 b, .int .i64 c]) w := fun _ => by kernel_rfl
  have j1 : ∀ w, (Instr.index 147 (.agg #[.int .i64 a, .int .i64 b, .int .i64 c, .int .i64 x, .int .i64 y, .int .i64 z]) (.int .i64 1)).run Try.prog w = .ok (.agg #[.int .i64 x, .int .i64 y, .int .i64 z]) w := fun _ => by kernel_rfl
  have L0 := hide (Lv.start w)
  go_enter Try.func66, Try.ntmps66
  go_wp2_with fail
  refine Lv.call (plTension_any lo hi 10000000000 _) ((((L0.out.put _ _).put _ _).put _ _).put _ _) ?_
  intro w1 L1'
  have L1 := hide L1'
  have F1 := L1'.at
  clear L1'
  simp only [AllAt, CellsAt, updL, List.map, Nat.zero_add, Nat.reduceAdd, and_true, World.size_alloc, World.heap_drewN, heap_drew, size_set, Nat.add_eq_left, Nat.left_eq_add, Nat.add_right_cancel_iff, ne_up2, ne_dn2, ne_up3, ne_dn3, ne_up4, ne_dn4, Nat.reduceEqDiff, Nat.one_ne_zero, Nat.succ_ne_zero, Nat.zero_ne_one, reduceIte, List.set_cons_zero, List.set_cons_succ] at F1
  rw [HT.out]
  go_wp2
  refine wp_loop_rounds 3 ?_
  rw [rounds_succ]
  go_wp2_with fail
  refine Lv.call (plPlace_any a b c _) (L1.out.put _ _) ?_
  intro w2 L2'
  have L2 := hide L2'
  have F2 := L2'.at
  clear L2' F1
  simp only [AllAt, CellsAt, updL, List.map, Nat.zero_add, Nat.reduceAdd, and_true, World.size_alloc, World.heap_drewN, heap_drew, size_set, Nat.add_eq_left, Nat.left_eq_add, Nat.add_right_cancel_iff, ne_up2, ne_dn2, ne_up3, ne_dn3, ne_up4, ne_dn4, Nat.reduceEqDiff, Nat.one_ne_zero, Nat.succ_ne_zero, Nat.zero_ne_one, reduceIte, List.set_cons_zero, List.set_cons_succ] at F2
  rw [HP.out]
  go_wp2
  refine bodyPost_ret (v := .tuple #[.agg #[.int .i64 0, .int .i64 0, .int .i64 0, .int .i64 0, .int .i64 0, .int .i64 0], .int .i64 2]) (by simp [results, Try.results66, go_sem, F2]) rfl ⟨rfl, ?_⟩
  repeat (first | (with_reducible exact L2.out.below) | refine Below.setCell ?_ (by first | omega | (simp; done) | (simp; omega)) _ | refine Below.alloc ?_ (by first | omega | (simp; done) | (simp; omega)) _ | refine below_drewN ?_ _ | refine Below.drew ?_)
set_option maxHeartbeats 4000000 in
set_option maxRecDepth 100000 in
theorem pull_to (lo hi a b c x y z : Int) (w : World) (hT : tenB lo hi 10000000000 = true) (hP : plE a b c = 0) (hP2 : plE x y z = 2) :
    Calls Try.prog 66 #[.agg #[.int .i64 lo, .int .i64 hi], .agg #[.int .i64 a, .int .i64 b, .int .i64 c], .agg #[.int .i64 x, .int .i64 y, .int .i64 z]] w fun e w' => e = .returned (.tuple #[.agg #[.int .i64 0, .int .i64 0, .int .i64 0, .int .i64 0, .int .i64 0, .int .i64 0], .int .i64 2]) ∧ Below w.heap.size w w' := by
  have HT := hide hT
  have HP := hide hP
  have HP2 := hide hP2
  clear hT hP hP2
  have j0 : ∀ w, (Instr.index 147 (.agg #[.int .i64 a, .int .i64 b, .int .i64 c, .int .i64 x, .int .i64 y, .int .i64 z]) (.int .i64 0)).run Try.prog w = .ok (.agg #[.int .i64 a, .int .i64 b, .int .i64 c]) w := fun _ => by kernel_rfl
  have j1 : ∀ w, (Instr.index 147 (.agg #[.int .i64 a, .int .i64 b, .int .i64 c, .int .i64 x, .int .i64 y, .int .i64 z]) (.int .i64 1)).run Try.prog w = .ok (.agg #[.int .i64 x, .int .i64 y, .int .i64 z]) w := fun _ => by kernel_rfl
  have L0 := hide (Lv.start w)
  go_enter Try.func66, Try.ntmps66
  go_wp2_with fail
  refine Lv.call (plTension_any lo hi 10000000000 _) ((((L0.out.put _ _).put _ _).put _ _).put _ _) ?_
  intro w1 L1'
  have L1 := hide L1'
  have F1 := L1'.at
  clear L1'
  simp only [AllAt, CellsAt, updL, List.map, Nat.zero_add, Nat.reduceAdd, and_true, World.size_alloc, World.heap_drewN, heap_drew, size_set, Nat.add_eq_left, Nat.left_eq_add, Nat.add_right_cancel_iff, ne_up2, ne_dn2, ne_up3, ne_dn3, ne_up4, ne_dn4, Nat.reduceEqDiff, Nat.one_ne_zero, Nat.succ_ne_zero, Nat.zero_ne_one, reduceIte, List.set_cons_zero, List.set_cons_succ] at F1
  rw [HT.out]
  go_wp2
  refine wp_loop_rounds 3 ?_
  rw [rounds_succ]
  go_wp2_with fail
  refine Lv.call (plPlace_any a b c _) (L1.out.put _ _) ?_
  intro w2 L2'
  have L2 := hide L2'
  have F2 := L2'.at
  clear L2' F1
  simp only [AllAt, CellsAt, updL, List.map, Nat.zero_add, Nat.reduceAdd, and_true, World.size_alloc, World.heap_drewN, heap_drew, size_set, Nat.add_eq_left, Nat.left_eq_add, Nat.add_right_cancel_iff, ne_up2, ne_dn2, ne_up3, ne_dn3, ne_up4, ne_dn4, Nat.reduceEqDiff, Nat.one_ne_zero, Nat.succ_ne_zero, Nat.zero_ne_one, reduceIte, List.set_cons_zero, List.set_cons_succ] at F2
  rw [HP.out]
  go_wp2
  rw [rounds_succ]
  go_wp2_with fail
  refine Lv.call (plPlace_any x y z _) (L2.out.put _ _) ?_
  intro w3 L3'
  have L3 := hide L3'
  have F3 := L3'.at
  clear L3' F2
  simp only [AllAt, CellsAt, updL, List.map, Nat.zero_add, Nat.reduceAdd, and_true, World.size_alloc, World.heap_drewN, heap_drew, size_set, Nat.add_eq_left, Nat.left_eq_add, Nat.add_right_cancel_iff, ne_up2, ne_dn2, ne_up3, ne_dn3, ne_up4, ne_dn4, Nat.reduceEqDiff, Nat.one_ne_zero, Nat.succ_ne_zero, Nat.zero_ne_one, reduceIte, List.set_cons_zero, List.set_cons_succ] at F3
  rw [HP2.out]
  go_wp2
  refine bodyPost_ret (v := .tuple #[.agg #[.int .i64 0, .int .i64 0, .int .i64 0, .int .i64 0, .int .i64 0, .int .i64 0], .int .i64 2]) (by simp [results, Try.results66, go_sem, F3]) rfl ⟨rfl, ?_⟩
  repeat (first | (with_reducible exact L3.out.below) | refine Below.setCell ?_ (by first | omega | (simp; done) | (simp; omega)) _ | refine Below.alloc ?_ (by first | omega | (simp; done) | (simp; omega)) _ | refine below_drewN ?_ _ | refine Below.drew ?_)
theorem Lv.far' {w0 w : World} {L : List (Nat × TypeId × List Value)} (h : Lv w0 w L) : ∀ x ∈ L, ¬ x.1 = w.heap.size := fun x hx => by have := (h.blk x hx).lt; omega
theorem updL_far' {L : List (Nat × TypeId × List Value)} {g i : Nat} {u : Value} (h : ∀ x ∈ L, ¬ x.1 = g) : updL L g i u = L := by
  unfold updL
  have e := List.map_congr_left (l := L) (f := fun x => if x.1 = g then (x.1, x.2.1, x.2.2.set i u) else x) (g := id) (fun x hx => if_neg (h x hx))
  rw [e, List.map_id]
theorem updL_here' {L : List (Nat × TypeId × List Value)} {g i : Nat} {t : TypeId} {cs : List Value} {u : Value} (h : ∀ x ∈ L, ¬ x.1 = g) : updL ((g, t, cs) :: L) g i u = (g, t, cs.set i u) :: L := by
  have e : updL ((g, t, cs) :: L) g i u = (g, t, cs.set i u) :: updL L g i u := by simp [updL]
  rw [e, updL_far' h]
theorem Lv.stored3 {w0 w : World} {L : List (Nat × TypeId × List Value)} {g : Nat} {t : TypeId} {z1 z2 z3 u1 u2 u3 : Value} (h : Lv w0 w ((g, t, [z1, z2, z3]) :: L)) (hg : w0.heap.size ≤ g) (hf : ∀ x ∈ L, ¬ x.1 = g) :
    Lv w0 (((w.setCell ⟨g, 0, none⟩ u1).setCell ⟨g, 1, none⟩ u2).setCell ⟨g, 2, none⟩ u3) ((g, t, [u1, u2, u3]) :: L) := by
  have h1 := h.set g 0 u1 hg
  rw [updL_here' hf] at h1
  have h2 := h1.set g 1 u2 hg
  rw [updL_here' hf] at h2
  have h3 := h2.set g 2 u3 hg
  rw [updL_here' hf] at h3
  exact h3
structure Place3 (a b c : Int) : Prop where
  x : -1000000 ≤ a ∧ a ≤ 1000000
  y : -1000000 ≤ b ∧ b ≤ 1000000
  z : -1000000 ≤ c ∧ c ≤ 1000000
theorem place3 {a b c : Int} (h : plE a b c = 0) : Place3 a b c := by
  unfold plE at h
  by_cases hb : inV a b c 1000000 = true
  · unfold inV inB at hb
    simp only [Bool.and_eq_true, decide_eq_true_eq] at hb
    exact ⟨hb.1, hb.2.1, hb.2.2⟩
  · rw [if_neg hb] at h; omega
set_option maxHeartbeats 4000000 in
set_option maxRecDepth 100000 in
theorem pull_far (lo hi a b c x y z u v t : Int) (w : World) (hT : tenB lo hi 10000000000 = true) (hP : plE a b c = 0) (hP2 : plE x y z = 0) (hu : x - a = u) (hv : y - b = v) (ht : z - c = t) (hF : inV u v t 1000000 = false) :
    Calls Try.prog 66 #[.agg #[.int .i64 lo, .int .i64 hi], .agg #[.int .i64 a, .int .i64 b, .int .i64 c], .agg #[.int .i64 x, .int .i64 y, .int .i64 z]] w fun e w' => e = .returned (.tuple #[.agg #[.int .i64 0, .int .i64 0, .int .i64 0, .int .i64 0, .int .i64 0, .int .i64 0], .int .i64 2]) ∧ Below w.heap.size w w' := by
  obtain ⟨p1, p2, p3⟩ := place3 hP
  obtain ⟨p4, p5, p6⟩ := place3 hP2
  have HT := hide hT
  have HP := hide hP
  have HP2 := hide hP2
  have HF := hide hF
  have HU : Hid (IntKind.i64.wrap (x + -a) = u) := hide (by rw [IntKind.wrap_i64]; omega)
  have HV : Hid (IntKind.i64.wrap (y + -b) = v) := hide (by rw [IntKind.wrap_i64]; omega)
  have HW : Hid (IntKind.i64.wrap (z + -c) = t) := hide (by rw [IntKind.wrap_i64]; omega)
  clear hT hP hP2 hu hv ht hF
  have j0 : ∀ w, (Instr.index 147 (.agg #[.int .i64 a, .int .i64 b, .int .i64 c, .int .i64 x, .int .i64 y, .int .i64 z]) (.int .i64 0)).run Try.prog w = .ok (.agg #[.int .i64 a, .int .i64 b, .int .i64 c]) w := fun _ => by kernel_rfl
  have j1 : ∀ w, (Instr.index 147 (.agg #[.int .i64 a, .int .i64 b, .int .i64 c, .int .i64 x, .int .i64 y, .int .i64 z]) (.int .i64 1)).run Try.prog w = .ok (.agg #[.int .i64 x, .int .i64 y, .int .i64 z]) w := fun _ => by kernel_rfl
  have L0 := hide (Lv.start w)
  go_enter Try.func66, Try.ntmps66
  go_wp2_with fail
  refine Lv.call (plTension_any lo hi 10000000000 _) ((((L0.out.put _ _).put _ _).put _ _).put _ _) ?_
  intro w1 L1'
  have L1 := hide L1'
  have F1 := L1'.at
  clear L1'
  simp only [AllAt, CellsAt, updL, List.map, Nat.zero_add, Nat.reduceAdd, and_true, World.size_alloc, World.heap_drewN, heap_drew, size_set, Nat.add_eq_left, Nat.left_eq_add, Nat.add_right_cancel_iff, ne_up2, ne_dn2, ne_up3, ne_dn3, ne_up4, ne_dn4, Nat.reduceEqDiff, Nat.one_ne_zero, Nat.succ_ne_zero, Nat.zero_ne_one, reduceIte, List.set_cons_zero, List.set_cons_succ] at F1
  rw [HT.out]
  go_wp2
  refine wp_loop_rounds 3 ?_
  rw [rounds_succ]
  go_wp2_with fail
  refine Lv.call (plPlace_any a b c _) (L1.out.put _ _) ?_
  intro w2 L2'
  have L2 := hide L2'
  have F2 := L2'.at
  clear L2' F1
  simp only [AllAt, CellsAt, updL, List.map, Nat.zero_add, Nat.reduceAdd, and_true, World.size_alloc, World.heap_drewN, heap_drew, size_set, Nat.add_eq_left, Nat.left_eq_add, Nat.add_right_cancel_iff, ne_up2, ne_dn2, ne_up3, ne_dn3, ne_up4, ne_dn4, Nat.reduceEqDiff, Nat.one_ne_zero, Nat.succ_ne_zero, Nat.zero_ne_one, reduceIte, List.set_cons_zero, List.set_cons_succ] at F2
  rw [HP.out]
  go_wp2
  rw [rounds_succ]
  go_wp2_with fail
  refine Lv.call (plPlace_any x y z _) (L2.out.put _ _) ?_
  intro w3 L3'
  have L3 := hide L3'
  have F3 := L3'.at
  clear L3' F2
  simp only [AllAt, CellsAt, updL, List.map, Nat.zero_add, Nat.reduceAdd, and_true, World.size_alloc, World.heap_drewN, heap_drew, size_set, Nat.add_eq_left, Nat.left_eq_add, Nat.add_right_cancel_iff, ne_up2, ne_dn2, ne_up3, ne_dn3, ne_up4, ne_dn4, Nat.reduceEqDiff, Nat.one_ne_zero, Nat.succ_ne_zero, Nat.zero_ne_one, reduceIte, List.set_cons_zero, List.set_cons_succ] at F3
  rw [HP2.out]
  have K3 : Hid (Lv w w3 [(w.heap.size + 3, 107, [.int .i64 0, .int .i64 0, .int .i64 0, .int .i64 0, .int .i64 0, .int .i64 0]), (w.heap.size + 2, 23, [.int .i64 x, .int .i64 y, .int .i64 z]), (w.heap.size + 1, 23, [.int .i64 a, .int .i64 b, .int .i64 c]), (w.heap.size, 90, [.int .i64 lo, .int .i64 hi])]) := hide (by simpa using L3.out.drop.drop)
  clear F3 L3
  have L3 := hide K3.out
  have F3 := L3.out.at; simp only [AllAt, CellsAt, updL, List.map, Nat.zero_add, Nat.reduceAdd, and_true, World.size_alloc, World.heap_drewN, heap_drew, size_set, Nat.add_eq_left, Nat.left_eq_add, Nat.add_right_cancel_iff, ne_up2, ne_dn2, ne_up3, ne_dn3, ne_up4, ne_dn4, Nat.reduceEqDiff, Nat.one_ne_zero, Nat.succ_ne_zero, Nat.zero_ne_one, reduceIte, List.set_cons_zero, List.set_cons_succ] at F3
  clear K3
  have n3 : (¬ w3.heap.size = w.heap.size + 1 ∧ ¬ w.heap.size + 1 = w3.heap.size) ∧ (¬ w3.heap.size = w.heap.size + 2 ∧ ¬ w.heap.size + 2 = w3.heap.size) := (by omega)
  go_wp2
  rw [rounds_succ]
  go_wp2
  go_cut [11] (fun s11 wx => ∃ g : Nat, s11 = .pointer (some ⟨g, 0, none⟩) ∧ Hid (Lv w wx ((g, 110, [.int .i64 u, .int .i64 v, .int .i64 t]) :: [(w.heap.size + 3, 107, [.int .i64 0, .int .i64 0, .int .i64 0, .int .i64 0, .int .i64 0, .int .i64 0]), (w.heap.size + 2, 23, [.int .i64 x, .int .i64 y, .int .i64 z]), (w.heap.size + 1, 23, [.int .i64 a, .int .i64 b, .int .i64 c]), (w.heap.size, 90, [.int .i64 lo, .int .i64 hi])])))
  case first =>
    ((go_region_held3 (fun w' => w'.cell? ⟨w.heap.size + 1, 0, none⟩ = some (.int .i64 a) ∧ w'.cell? ⟨w.heap.size + 1, 1, none⟩ = some (.int .i64 b) ∧ w'.cell? ⟨w.heap.size + 1, 2, none⟩ = some (.int .i64 c) ∧ w'.cell? ⟨w.heap.size + 2, 0, none⟩ = some (.int .i64 x) ∧ w'.cell? ⟨w.heap.size + 2, 1, none⟩ = some (.int .i64 y) ∧ w'.cell? ⟨w.heap.size + 2, 2, none⟩ = some (.int .i64 z))
      (go_keep)
      (first | (go_at_call 74; (first | (refine Lv.call (plOpp_any a b c _ (by omega) (by omega) (by omega)) (L3.out.drew) ?_; intro w4 L4'; have L4 := hide L4'; have F4 := L4'.at; clear L4'; simp only [AllAt, CellsAt, updL, List.map, Nat.zero_add, Nat.reduceAdd, and_true, World.size_alloc, World.heap_drewN, heap_drew, size_set, Nat.add_eq_left, Nat.left_eq_add, Nat.add_right_cancel_iff, ne_up2, ne_dn2, ne_up3, ne_dn3, ne_up4, ne_dn4, Nat.reduceEqDiff, Nat.one_ne_zero, Nat.succ_ne_zero, Nat.zero_ne_one, reduceIte, List.set_cons_zero, List.set_cons_succ] at F4; have n4 : (¬ w4.heap.size = w.heap.size + 1 ∧ ¬ w.heap.size + 1 = w4.heap.size) ∧ (¬ w4.heap.size = w.heap.size + 2 ∧ ¬ w.heap.size + 2 = w4.heap.size) := (by omega)) | (refine Lv.call (plOpp_any a b c _ (by omega) (by omega) (by omega)) ((L3.out.put _ _).drew) ?_; intro w4 L4'; have L4 := hide L4'; have F4 := L4'.at; clear L4'; simp only [AllAt, CellsAt, updL, List.map, Nat.zero_add, Nat.reduceAdd, and_true, World.size_alloc, World.heap_drewN, heap_drew, size_set, Nat.add_eq_left, Nat.left_eq_add, Nat.add_right_cancel_iff, ne_up2, ne_dn2, ne_up3, ne_dn3, ne_up4, ne_dn4, Nat.reduceEqDiff, Nat.one_ne_zero, Nat.succ_ne_zero, Nat.zero_ne_one, reduceIte, List.set_cons_zero, List.set_cons_succ] at F4; have n4 : (¬ w4.heap.size = w.heap.size + 1 ∧ ¬ w.heap.size + 1 = w4.heap.size) ∧ (¬ w4.heap.size = w.heap.size + 2 ∧ ¬ w.heap.size + 2 = w4.heap.size) := (by omega)))) | (go_at_call 75; (first | (refine Lv.call (plPlus_any x y z (-a) (-b) (-c) u v t _ HU.out HV.out HW.out) (L4.out) ?_; intro w5 L5'; have L5 := hide L5'; have F5 := L5'.at; clear L5'; simp only [AllAt, CellsAt, updL, List.map, Nat.zero_add, Nat.reduceAdd, and_true, World.size_alloc, World.heap_drewN, heap_drew, size_set, Nat.add_eq_left, Nat.left_eq_add, Nat.add_right_cancel_iff, ne_up2, ne_dn2, ne_up3, ne_dn3, ne_up4, ne_dn4, Nat.reduceEqDiff, Nat.one_ne_zero, Nat.succ_ne_zero, Nat.zero_ne_one, reduceIte, List.set_cons_zero, List.set_cons_succ] at F5; have n5 : (¬ w5.heap.size = w.heap.size + 1 ∧ ¬ w.heap.size + 1 = w5.heap.size) ∧ (¬ w5.heap.size = w.heap.size + 2 ∧ ¬ w.heap.size + 2 = w5.heap.size) := (by omega)) | (refine Lv.call (plPlus_any x y z (-a) (-b) (-c) u v t _ HU.out HV.out HW.out) (L4.out.put _ _) ?_; intro w5 L5'; have L5 := hide L5'; have F5 := L5'.at; clear L5'; simp only [AllAt, CellsAt, updL, List.map, Nat.zero_add, Nat.reduceAdd, and_true, World.size_alloc, World.heap_drewN, heap_drew, size_set, Nat.add_eq_left, Nat.left_eq_add, Nat.add_right_cancel_iff, ne_up2, ne_dn2, ne_up3, ne_dn3, ne_up4, ne_dn4, Nat.reduceEqDiff, Nat.one_ne_zero, Nat.succ_ne_zero, Nat.zero_ne_one, reduceIte, List.set_cons_zero, List.set_cons_succ] at F5; have n5 : (¬ w5.heap.size = w.heap.size + 1 ∧ ¬ w.heap.size + 1 = w5.heap.size) ∧ (¬ w5.heap.size = w.heap.size + 2 ∧ ¬ w.heap.size + 2 = w5.heap.size) := (by omega)))) | fail)))
    all_goals
      go_wp2_with fail
      go_meet
      refine ⟨_, rfl, hide ?_⟩
      first
        | exact L5.out.put _ _
        | exact L5.out.stored3 L4.out.size L4.out.far'
        | exact L5.out.stored3 L3.out.size L3.out.far'
  case rest =>
    obtain ⟨g, rfl, L5⟩ := hcut
    clear F3 L3 n3
    have F5 := L5.out.at; simp only [AllAt, CellsAt, updL, List.map, Nat.zero_add, Nat.reduceAdd, and_true, World.size_alloc, World.heap_drewN, heap_drew, size_set, Nat.add_eq_left, Nat.left_eq_add, Nat.add_right_cancel_iff, ne_up2, ne_dn2, ne_up3, ne_dn3, ne_up4, ne_dn4, Nat.reduceEqDiff, Nat.one_ne_zero, Nat.succ_ne_zero, Nat.zero_ne_one, reduceIte, List.set_cons_zero, List.set_cons_succ] at F5
    go_wp2
    go_cut [41] (fun s41 wx => s41 = .bool (!inV u v t 1000000) ∧ Hid (Lv w wx ((g, 110, [.int .i64 u, .int .i64 v, .int .i64 t]) :: [(w.heap.size + 3, 107, [.int .i64 0, .int .i64 0, .int .i64 0, .int .i64 0, .int .i64 0, .int .i64 0]), (w.heap.size + 2, 23, [.int .i64 x, .int .i64 y, .int .i64 z]), (w.heap.size + 1, 23, [.int .i64 a, .int .i64 b, .int .i64 c]), (w.heap.size, 90, [.int .i64 lo, .int .i64 hi])])))
    case first =>
      (first | (go_region_with (first | (go_at_call 72; refine (plWithin_any _ _).mono ?_; rintro e w' ⟨rfl, rfl⟩) | (go_at_call 71; refine Lv.call (plAll_any u v t 1000000 _ _ (by omega) (by omega) (by first | exact Blk.new _ _ _ _ (by simp) | exact (Blk.new _ _ _ _ (by simp)).drew)) (L5.out.put _ _).drew ?_; intro w6 L6'; have L6 := hide L6'; have F6 := L6'.at; clear L6'; simp only [AllAt, CellsAt, updL, List.map, Nat.zero_add, Nat.reduceAdd, and_true, World.size_alloc, World.heap_drewN, heap_drew, size_set, Nat.add_eq_left, Nat.left_eq_add, Nat.add_right_cancel_iff, ne_up2, ne_dn2, ne_up3, ne_dn3, ne_up4, ne_dn4, Nat.reduceEqDiff, Nat.one_ne_zero, Nat.succ_ne_zero, Nat.zero_ne_one, reduceIte, List.set_cons_zero, List.set_cons_succ] at F6))) | fail)
      all_goals
        go_wp2_with fail
        go_meet
        exact ⟨rfl, hide L6.out.drop⟩
    case rest =>
      obtain ⟨rfl, L6⟩ := hcut
      clear F5 L5
      have F6 := L6.out.at; simp only [AllAt, CellsAt, updL, List.map, Nat.zero_add, Nat.reduceAdd, and_true, World.size_alloc, World.heap_drewN, heap_drew, size_set, Nat.add_eq_left, Nat.left_eq_add, Nat.add_right_cancel_iff, ne_up2, ne_dn2, ne_up3, ne_dn3, ne_up4, ne_dn4, Nat.reduceEqDiff, Nat.one_ne_zero, Nat.succ_ne_zero, Nat.zero_ne_one, reduceIte, List.set_cons_zero, List.set_cons_succ] at F6
      rw [HF.out]
      go_wp2
      refine bodyPost_ret (v := .tuple #[.agg #[.int .i64 0, .int .i64 0, .int .i64 0, .int .i64 0, .int .i64 0, .int .i64 0], .int .i64 2]) (by simp [results, Try.results66, go_sem, F6]) rfl ⟨rfl, ?_⟩
      repeat (first | (with_reducible exact L6.out.below) | refine Below.setCell ?_ (by first | omega | (simp; done) | (simp; omega)) _ | refine Below.alloc ?_ (by first | omega | (simp; done) | (simp; omega)) _ | refine below_drewN ?_ _ | refine Below.drew ?_)
set_option maxHeartbeats 4000000 in
set_option maxRecDepth 100000 in
theorem pull_same (lo hi a b c x y z u v t : Int) (w : World) (hT : tenB lo hi 10000000000 = true) (hP : plE a b c = 0) (hP2 : plE x y z = 0) (hu : x - a = u) (hv : y - b = v) (ht : z - c = t) (hF : inV u v t 1000000 = true) (hS : eq3 a b c x y z = true) :
    Calls Try.prog 66 #[.agg #[.int .i64 lo, .int .i64 hi], .agg #[.int .i64 a, .int .i64 b, .int .i64 c], .agg #[.int .i64 x, .int .i64 y, .int .i64 z]] w fun e w' => e = .returned (.tuple #[.agg #[.int .i64 0, .int .i64 0, .int .i64 0, .int .i64 0, .int .i64 0, .int .i64 0], .int .i64 11]) ∧ Below w.heap.size w w' := by
  obtain ⟨p1, p2, p3⟩ := place3 hP
  obtain ⟨p4, p5, p6⟩ := place3 hP2
  have HT := hide hT
  have HP := hide hP
  have HP2 := hide hP2
  have HF := hide hF
  have HU : Hid (IntKind.i64.wrap (x + -a) = u) := hide (by rw [IntKind.wrap_i64]; omega)
  have HV : Hid (IntKind.i64.wrap (y + -b) = v) := hide (by rw [IntKind.wrap_i64]; omega)
  have HW : Hid (IntKind.i64.wrap (z + -c) = t) := hide (by rw [IntKind.wrap_i64]; omega)
  have hq := eq3_run a b c x y z
  rw [hS] at hq
  clear hT hP hP2 hu hv ht hF hS
  have j0 : ∀ w, (Instr.index 147 (.agg #[.int .i64 a, .int .i64 b, .int .i64 c, .int .i64 x, .int .i64 y, .int .i64 z]) (.int .i64 0)).run Try.prog w = .ok (.agg #[.int .i64 a, .int .i64 b, .int .i64 c]) w := fun _ => by kernel_rfl
  have j1 : ∀ w, (Instr.index 147 (.agg #[.int .i64 a, .int .i64 b, .int .i64 c, .int .i64 x, .int .i64 y, .int .i64 z]) (.int .i64 1)).run Try.prog w = .ok (.agg #[.int .i64 x, .int .i64 y, .int .i64 z]) w := fun _ => by kernel_rfl
  have L0 := hide (Lv.start w)
  go_enter Try.func66, Try.ntmps66
  go_wp2_with fail
  refine Lv.call (plTension_any lo hi 10000000000 _) ((((L0.out.put _ _).put _ _).put _ _).put _ _) ?_
  intro w1 L1'
  have L1 := hide L1'
  have F1 := L1'.at
  clear L1'
  simp only [AllAt, CellsAt, updL, List.map, Nat.zero_add, Nat.reduceAdd, and_true, World.size_alloc, World.heap_drewN, heap_drew, size_set, Nat.add_eq_left, Nat.left_eq_add, Nat.add_right_cancel_iff, ne_up2, ne_dn2, ne_up3, ne_dn3, ne_up4, ne_dn4, Nat.reduceEqDiff, Nat.one_ne_zero, Nat.succ_ne_zero, Nat.zero_ne_one, reduceIte, List.set_cons_zero, List.set_cons_succ] at F1
  rw [HT.out]
  go_wp2
  refine wp_loop_rounds 3 ?_
  rw [rounds_succ]
  go_wp2_with fail
  refine Lv.call (plPlace_any a b c _) (L1.out.put _ _) ?_
  intro w2 L2'
  have L2 := hide L2'
  have F2 := L2'.at
  clear L2' F1
  simp only [AllAt, CellsAt, updL, List.map, Nat.zero_add, Nat.reduceAdd, and_true, World.size_alloc, World.heap_drewN, heap_drew, size_set, Nat.add_eq_left, Nat.left_eq_add, Nat.add_right_cancel_iff, ne_up2, ne_dn2, ne_up3, ne_dn3, ne_up4, ne_dn4, Nat.reduceEqDiff, Nat.one_ne_zero, Nat.succ_ne_zero, Nat.zero_ne_one, reduceIte, List.set_cons_zero, List.set_cons_succ] at F2
  rw [HP.out]
  go_wp2
  rw [rounds_succ]
  go_wp2_with fail
  refine Lv.call (plPlace_any x y z _) (L2.out.put _ _) ?_
  intro w3 L3'
  have L3 := hide L3'
  have F3 := L3'.at
  clear L3' F2
  simp only [AllAt, CellsAt, updL, List.map, Nat.zero_add, Nat.reduceAdd, and_true, World.size_alloc, World.heap_drewN, heap_drew, size_set, Nat.add_eq_left, Nat.left_eq_add, Nat.add_right_cancel_iff, ne_up2, ne_dn2, ne_up3, ne_dn3, ne_up4, ne_dn4, Nat.reduceEqDiff, Nat.one_ne_zero, Nat.succ_ne_zero, Nat.zero_ne_one, reduceIte, List.set_cons_zero, List.set_cons_succ] at F3
  rw [HP2.out]
  have K3 : Hid (Lv w w3 [(w.heap.size + 3, 107, [.int .i64 0, .int .i64 0, .int .i64 0, .int .i64 0, .int .i64 0, .int .i64 0]), (w.heap.size + 2, 23, [.int .i64 x, .int .i64 y, .int .i64 z]), (w.heap.size + 1, 23, [.int .i64 a, .int .i64 b, .int .i64 c]), (w.heap.size, 90, [.int .i64 lo, .int .i64 hi])]) := hide (by simpa using L3.out.drop.drop)
  clear F3 L3
  have L3 := hide K3.out
  have F3 := L3.out.at; simp only [AllAt, CellsAt, updL, List.map, Nat.zero_add, Nat.reduceAdd, and_true, World.size_alloc, World.heap_drewN, heap_drew, size_set, Nat.add_eq_left, Nat.left_eq_add, Nat.add_right_cancel_iff, ne_up2, ne_dn2, ne_up3, ne_dn3, ne_up4, ne_dn4, Nat.reduceEqDiff, Nat.one_ne_zero, Nat.succ_ne_zero, Nat.zero_ne_one, reduceIte, List.set_cons_zero, List.set_cons_succ] at F3
  clear K3
  have n3 : (¬ w3.heap.size = w.heap.size + 1 ∧ ¬ w.heap.size + 1 = w3.heap.size) ∧ (¬ w3.heap.size = w.heap.size + 2 ∧ ¬ w.heap.size + 2 = w3.heap.size) := (by omega)
  go_wp2
  rw [rounds_succ]
  go_wp2
  go_cut [11] (fun s11 wx => ∃ g : Nat, s11 = .pointer (some ⟨g, 0, none⟩) ∧ Hid (Lv w wx ((g, 110, [.int .i64 u, .int .i64 v, .int .i64 t]) :: [(w.heap.size + 3, 107, [.int .i64 0, .int .i64 0, .int .i64 0, .int .i64 0, .int .i64 0, .int .i64 0]), (w.heap.size + 2, 23, [.int .i64 x, .int .i64 y, .int .i64 z]), (w.heap.size + 1, 23, [.int .i64 a, .int .i64 b, .int .i64 c]), (w.heap.size, 90, [.int .i64 lo, .int .i64 hi])])))
  case first =>
    ((go_region_held3 (fun w' => w'.cell? ⟨w.heap.size + 1, 0, none⟩ = some (.int .i64 a) ∧ w'.cell? ⟨w.heap.size + 1, 1, none⟩ = some (.int .i64 b) ∧ w'.cell? ⟨w.heap.size + 1, 2, none⟩ = some (.int .i64 c) ∧ w'.cell? ⟨w.heap.size + 2, 0, none⟩ = some (.int .i64 x) ∧ w'.cell? ⟨w.heap.size + 2, 1, none⟩ = some (.int .i64 y) ∧ w'.cell? ⟨w.heap.size + 2, 2, none⟩ = some (.int .i64 z))
      (go_keep)
      (first | (go_at_call 74; (first | (refine Lv.call (plOpp_any a b c _ (by omega) (by omega) (by omega)) (L3.out.drew) ?_; intro w4 L4'; have L4 := hide L4'; have F4 := L4'.at; clear L4'; simp only [AllAt, CellsAt, updL, List.map, Nat.zero_add, Nat.reduceAdd, and_true, World.size_alloc, World.heap_drewN, heap_drew, size_set, Nat.add_eq_left, Nat.left_eq_add, Nat.add_right_cancel_iff, ne_up2, ne_dn2, ne_up3, ne_dn3, ne_up4, ne_dn4, Nat.reduceEqDiff, Nat.one_ne_zero, Nat.succ_ne_zero, Nat.zero_ne_one, reduceIte, List.set_cons_zero, List.set_cons_succ] at F4; have n4 : (¬ w4.heap.size = w.heap.size + 1 ∧ ¬ w.heap.size + 1 = w4.heap.size) ∧ (¬ w4.heap.size = w.heap.size + 2 ∧ ¬ w.heap.size + 2 = w4.heap.size) := (by omega)) | (refine Lv.call (plOpp_any a b c _ (by omega) (by omega) (by omega)) ((L3.out.put _ _).drew) ?_; intro w4 L4'; have L4 := hide L4'; have F4 := L4'.at; clear L4'; simp only [AllAt, CellsAt, updL, List.map, Nat.zero_add, Nat.reduceAdd, and_true, World.size_alloc, World.heap_drewN, heap_drew, size_set, Nat.add_eq_left, Nat.left_eq_add, Nat.add_right_cancel_iff, ne_up2, ne_dn2, ne_up3, ne_dn3, ne_up4, ne_dn4, Nat.reduceEqDiff, Nat.one_ne_zero, Nat.succ_ne_zero, Nat.zero_ne_one, reduceIte, List.set_cons_zero, List.set_cons_succ] at F4; have n4 : (¬ w4.heap.size = w.heap.size + 1 ∧ ¬ w.heap.size + 1 = w4.heap.size) ∧ (¬ w4.heap.size = w.heap.size + 2 ∧ ¬ w.heap.size + 2 = w4.heap.size) := (by omega)))) | (go_at_call 75; (first | (refine Lv.call (plPlus_any x y z (-a) (-b) (-c) u v t _ HU.out HV.out HW.out) (L4.out) ?_; intro w5 L5'; have L5 := hide L5'; have F5 := L5'.at; clear L5'; simp only [AllAt, CellsAt, updL, List.map, Nat.zero_add, Nat.reduceAdd, and_true, World.size_alloc, World.heap_drewN, heap_drew, size_set, Nat.add_eq_left, Nat.left_eq_add, Nat.add_right_cancel_iff, ne_up2, ne_dn2, ne_up3, ne_dn3, ne_up4, ne_dn4, Nat.reduceEqDiff, Nat.one_ne_zero, Nat.succ_ne_zero, Nat.zero_ne_one, reduceIte, List.set_cons_zero, List.set_cons_succ] at F5; have n5 : (¬ w5.heap.size = w.heap.size + 1 ∧ ¬ w.heap.size + 1 = w5.heap.size) ∧ (¬ w5.heap.size = w.heap.size + 2 ∧ ¬ w.heap.size + 2 = w5.heap.size) := (by omega)) | (refine Lv.call (plPlus_any x y z (-a) (-b) (-c) u v t _ HU.out HV.out HW.out) (L4.out.put _ _) ?_; intro w5 L5'; have L5 := hide L5'; have F5 := L5'.at; clear L5'; simp only [AllAt, CellsAt, updL, List.map, Nat.zero_add, Nat.reduceAdd, and_true, World.size_alloc, World.heap_drewN, heap_drew, size_set, Nat.add_eq_left, Nat.left_eq_add, Nat.add_right_cancel_iff, ne_up2, ne_dn2, ne_up3, ne_dn3, ne_up4, ne_dn4, Nat.reduceEqDiff, Nat.one_ne_zero, Nat.succ_ne_zero, Nat.zero_ne_one, reduceIte, List.set_cons_zero, List.set_cons_succ] at F5; have n5 : (¬ w5.heap.size = w.heap.size + 1 ∧ ¬ w.heap.size + 1 = w5.heap.size) ∧ (¬ w5.heap.size = w.heap.size + 2 ∧ ¬ w.heap.size + 2 = w5.heap.size) := (by omega)))) | fail)))
    all_goals
      go_wp2_with fail
      go_meet
      refine ⟨_, rfl, hide ?_⟩
      first
        | exact L5.out.put _ _
        | exact L5.out.stored3 L4.out.size L4.out.far'
        | exact L5.out.stored3 L3.out.size L3.out.far'
  case rest =>
    obtain ⟨g, rfl, L5⟩ := hcut
    clear F3 L3 n3
    have F5 := L5.out.at; simp only [AllAt, CellsAt, updL, List.map, Nat.zero_add, Nat.reduceAdd, and_true, World.size_alloc, World.heap_drewN, heap_drew, size_set, Nat.add_eq_left, Nat.left_eq_add, Nat.add_right_cancel_iff, ne_up2, ne_dn2, ne_up3, ne_dn3, ne_up4, ne_dn4, Nat.reduceEqDiff, Nat.one_ne_zero, Nat.succ_ne_zero, Nat.zero_ne_one, reduceIte, List.set_cons_zero, List.set_cons_succ] at F5
    go_wp2
    go_cut [41] (fun s41 wx => s41 = .bool (!inV u v t 1000000) ∧ Hid (Lv w wx ((g, 110, [.int .i64 u, .int .i64 v, .int .i64 t]) :: [(w.heap.size + 3, 107, [.int .i64 0, .int .i64 0, .int .i64 0, .int .i64 0, .int .i64 0, .int .i64 0]), (w.heap.size + 2, 23, [.int .i64 x, .int .i64 y, .int .i64 z]), (w.heap.size + 1, 23, [.int .i64 a, .int .i64 b, .int .i64 c]), (w.heap.size, 90, [.int .i64 lo, .int .i64 hi])])))
    case first =>
      (first | (go_region_with (first | (go_at_call 72; refine (plWithin_any _ _).mono ?_; rintro e w' ⟨rfl, rfl⟩) | (go_at_call 71; refine Lv.call (plAll_any u v t 1000000 _ _ (by omega) (by omega) (by first | exact Blk.new _ _ _ _ (by simp) | exact (Blk.new _ _ _ _ (by simp)).drew)) (L5.out.put _ _).drew ?_; intro w6 L6'; have L6 := hide L6'; have F6 := L6'.at; clear L6'; simp only [AllAt, CellsAt, updL, List.map, Nat.zero_add, Nat.reduceAdd, and_true, World.size_alloc, World.heap_drewN, heap_drew, size_set, Nat.add_eq_left, Nat.left_eq_add, Nat.add_right_cancel_iff, ne_up2, ne_dn2, ne_up3, ne_dn3, ne_up4, ne_dn4, Nat.reduceEqDiff, Nat.one_ne_zero, Nat.succ_ne_zero, Nat.zero_ne_one, reduceIte, List.set_cons_zero, List.set_cons_succ] at F6))) | fail)
      all_goals
        go_wp2_with fail
        go_meet
        exact ⟨rfl, hide L6.out.drop⟩
    case rest =>
      obtain ⟨rfl, L6⟩ := hcut
      clear F5 L5
      have F6 := L6.out.at; simp only [AllAt, CellsAt, updL, List.map, Nat.zero_add, Nat.reduceAdd, and_true, World.size_alloc, World.heap_drewN, heap_drew, size_set, Nat.add_eq_left, Nat.left_eq_add, Nat.add_right_cancel_iff, ne_up2, ne_dn2, ne_up3, ne_dn3, ne_up4, ne_dn4, Nat.reduceEqDiff, Nat.one_ne_zero, Nat.succ_ne_zero, Nat.zero_ne_one, reduceIte, List.set_cons_zero, List.set_cons_succ] at F6
      rw [HF.out]
      go_wp2
      refine bodyPost_ret (v := .tuple #[.agg #[.int .i64 0, .int .i64 0, .int .i64 0, .int .i64 0, .int .i64 0, .int .i64 0], .int .i64 11]) (by simp [results, Try.results66, go_sem, F6]) rfl ⟨rfl, ?_⟩
      repeat (first | (with_reducible exact L6.out.below) | refine Below.setCell ?_ (by first | omega | (simp; done) | (simp; omega)) _ | refine Below.alloc ?_ (by first | omega | (simp; done) | (simp; omega)) _ | refine below_drewN ?_ _ | refine Below.drew ?_)
end Go.Proofs.Ytjfcjclhbnmgcaa
