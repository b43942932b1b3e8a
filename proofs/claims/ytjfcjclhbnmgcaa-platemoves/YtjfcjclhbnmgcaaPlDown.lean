/- The contract of plate.DownBearing; plate.checkShare, Margin. Every bound is a premise of the theorem that bears it. -/
import Derived.Test.YtjfcjclhbnmgcaaPlLow
namespace Go.Proofs.Ytjfcjclhbnmgcaa
open Go.RowKit
set_option linter.unusedVariables false
set_option linter.unusedSimpArgs false

def lowN (n d : Int) : Int := n.tdiv (gcdF n d)
def lowD (n d : Int) : Int := d / (gcdF n d)
set_option maxHeartbeats 2000000 in
set_option maxRecDepth 100000 in
theorem plDownB_bad (f b k a h t : Int) (w : World) (hE : brgE f b k a h = 2) :
    Calls Try.prog 59 #[.agg #[.int .i64 f, .int .i64 b, .int .i64 k, .int .i64 a, .int .i64 h], .int .i64 t] w fun e w' => e = .returned (.tuple #[.agg #[.int .i64 0, .int .i64 0], .int .i64 2]) ∧ Below w.heap.size w w' := by
  have HE := hide hE
  clear hE
  have L0 := hide (Lv.start w)
  go_enter Try.func59, Try.ntmps59
  go_wp2_with fail
  refine Lv.call (plBearing_any f b k a h _) ((L0.out.put _ _).put _ _) ?_
  intro w1 L1'
  have L1 := hide L1'
  have F1 := L1'.at
  clear L1'
  simp only [AllAt, CellsAt, updL, List.map, Nat.zero_add, Nat.reduceAdd, and_true, World.size_alloc, World.heap_drewN, heap_drew, size_set, Nat.add_eq_left, Nat.left_eq_add, Nat.add_right_cancel_iff, ne_up2, ne_dn2, ne_up3, ne_dn3, ne_up4, ne_dn4, Nat.reduceEqDiff, Nat.one_ne_zero, Nat.succ_ne_zero, Nat.zero_ne_one, reduceIte, List.set_cons_zero, List.set_cons_succ] at F1
  rw [HE.out]
  go_wp2
  refine bodyPost_ret (v := .tuple #[.agg #[.int .i64 0, .int .i64 0], .int .i64 2]) (by simp [results, Try.results59, go_sem, F1]) rfl ⟨rfl, ?_⟩
  repeat (first | (with_reducible exact L1.out.below) | refine Below.setCell ?_ (by first | omega | (simp; done) | (simp; omega)) _ | refine Below.alloc ?_ (by first | omega | (simp; done) | (simp; omega)) _ | refine below_drewN ?_ _ | refine Below.drew ?_)
set_option maxHeartbeats 2000000 in
set_option maxRecDepth 100000 in
theorem plDownB_out (f b k a h t : Int) (w : World) (hE : brgE f b k a h = 0) (ht : t < 0 ∨ (0 ≤ t ∧ 10000000 < t)) :
    Calls Try.prog 59 #[.agg #[.int .i64 f, .int .i64 b, .int .i64 k, .int .i64 a, .int .i64 h], .int .i64 t] w fun e w' => e = .returned (.tuple #[.agg #[.int .i64 0, .int .i64 0], .int .i64 2]) ∧ Below w.heap.size w w' := by
  have HE := hide hE
  clear hE
  rcases ht with ht | ⟨ht0, ht⟩
  all_goals
    have L0 := hide (Lv.start w)
    go_enter Try.func59, Try.ntmps59
    go_wp2_with fail
    refine Lv.call (plBearing_any f b k a h _) ((L0.out.put _ _).put _ _) ?_
    intro w1 L1'
    have L1 := hide L1'
    have F1 := L1'.at
    clear L1'
    simp only [AllAt, CellsAt, updL, List.map, Nat.zero_add, Nat.reduceAdd, and_true, World.size_alloc, World.heap_drewN, heap_drew, size_set, Nat.add_eq_left, Nat.left_eq_add, Nat.add_right_cancel_iff, ne_up2, ne_dn2, ne_up3, ne_dn3, ne_up4, ne_dn4, Nat.reduceEqDiff, Nat.one_ne_zero, Nat.succ_ne_zero, Nat.zero_ne_one, reduceIte, List.set_cons_zero, List.set_cons_succ] at F1
    rw [HE.out]
    go_wp2
    refine bodyPost_ret (v := .tuple #[.agg #[.int .i64 0, .int .i64 0], .int .i64 2]) (by simp [results, Try.results59, go_sem, F1]) rfl ⟨rfl, ?_⟩
    repeat (first | (with_reducible exact L1.out.below) | refine Below.setCell ?_ (by first | omega | (simp; done) | (simp; omega)) _ | refine Below.alloc ?_ (by first | omega | (simp; done) | (simp; omega)) _ | refine below_drewN ?_ _ | refine Below.drew ?_)
set_option maxHeartbeats 2000000 in
set_option maxRecDepth 100000 in
theorem plDownB_ok (f b k a h t : Int) (w : World) (hE : brgE f b k a h = 0) (ht : 0 ≤ t ∧ t ≤ 10000000) :
    Calls Try.prog 59 #[.agg #[.int .i64 f, .int .i64 b, .int .i64 k, .int .i64 a, .int .i64 h], .int .i64 t] w fun e w' => e = .returned (.tuple #[.agg #[.int .i64 (lowN (t * steep f b k a h) (a * h)), .int .i64 (lowD (t * steep f b k a h) (a * h))], .int .i64 0]) ∧ Below w.heap.size w w' := by
  have o := brg_ok hE
  obtain ⟨k1, k2, k3, k4⟩ := steep_in o
  have HO := hide o
  have HE := hide hE
  clear hE
  have k5 := mul_bound (x := t) (y := steep f b k a h) 10000000 12000000000 (by omega) (by omega)
  rw [show (10000000 * 12000000000 : Nat) = 120000000000000000 from rfl] at k5
  obtain ⟨s, hs⟩ : ∃ s, s = steep f b k a h := ⟨_, rfl⟩
  obtain ⟨m, hm⟩ : ∃ s, s = a * h := ⟨_, rfl⟩
  have CR := fun W => plRise_any f b k a h W HO.out
  rw [← hs] at k3 k5 CR ⊢
  rw [← hm] at k4 CR ⊢
  replace CR := hide CR
  have CL := hide (fun W => plLowest_any (t * s) m W (by omega) (by omega))
  have HN : Hid (lowN (t * s) m = (t * s).tdiv (gcdF (t * s) m)) := rfl
  have HD : Hid (lowD (t * s) m = m / (gcdF (t * s) m)) := rfl
  obtain ⟨x, hx⟩ : ∃ x, x = lowN (t * s) m := ⟨_, rfl⟩
  obtain ⟨y, hy⟩ : ∃ x, x = lowD (t * s) m := ⟨_, rfl⟩
  have CL2 : Hid (∀ W : World, Calls Try.prog 82 #[.int .i64 (t * s), .int .i64 m] W fun e w' => e = .returned (.agg #[.int .i64 x, .int .i64 y]) ∧ Below W.heap.size W w') := hide (by rw [hx, hy, HN.out, HD.out]; exact CL.out)
  rw [← hx, ← hy]
  clear hs hm hx hy HN HD CL
  have L0 := hide (Lv.start w)
  go_enter Try.func59, Try.ntmps59
  go_wp2_with fail
  refine Lv.call (plBearing_any f b k a h _) ((L0.out.put _ _).put _ _) ?_
  intro w1 L1'
  have L1 := hide L1'
  have F1 := L1'.at
  clear L1'
  simp only [AllAt, CellsAt, updL, List.map, Nat.zero_add, Nat.reduceAdd, and_true, World.size_alloc, World.heap_drewN, heap_drew, size_set, Nat.add_eq_left, Nat.left_eq_add, Nat.add_right_cancel_iff, ne_up2, ne_dn2, ne_up3, ne_dn3, ne_up4, ne_dn4, Nat.reduceEqDiff, Nat.one_ne_zero, Nat.succ_ne_zero, Nat.zero_ne_one, reduceIte, List.set_cons_zero, List.set_cons_succ] at F1
  rw [HE.out]
  go_wp2_with fail
  refine Lv.call (CR.out _) L1.out ?_
  intro w2 L2'
  have L2 := hide L2'
  have F2 := L2'.at
  clear L2' F1
  simp only [AllAt, CellsAt, updL, List.map, Nat.zero_add, Nat.reduceAdd, and_true, World.size_alloc, World.heap_drewN, heap_drew, size_set, Nat.add_eq_left, Nat.left_eq_add, Nat.add_right_cancel_iff, ne_up2, ne_dn2, ne_up3, ne_dn3, ne_up4, ne_dn4, Nat.reduceEqDiff, Nat.one_ne_zero, Nat.succ_ne_zero, Nat.zero_ne_one, reduceIte, List.set_cons_zero, List.set_cons_succ] at F2
  go_wp2_with fail
  refine Lv.call (CL2.out _) L2.out ?_
  intro w3 L3'
  have L3 := hide L3'
  have F3 := L3'.at
  clear L3' F2
  simp only [AllAt, CellsAt, updL, List.map, Nat.zero_add, Nat.reduceAdd, and_true, World.size_alloc, World.heap_drewN, heap_drew, size_set, Nat.add_eq_left, Nat.left_eq_add, Nat.add_right_cancel_iff, ne_up2, ne_dn2, ne_up3, ne_dn3, ne_up4, ne_dn4, Nat.reduceEqDiff, Nat.one_ne_zero, Nat.succ_ne_zero, Nat.zero_ne_one, reduceIte, List.set_cons_zero, List.set_cons_succ] at F3
  go_wp2
  refine bodyPost_ret (v := .tuple #[.agg #[.int .i64 x, .int .i64 y], .int .i64 0]) (by simp [results, Try.results59, go_sem, F3]) rfl ⟨rfl, ?_⟩
  repeat (first | (with_reducible exact L3.out.below) | refine Below.setCell ?_ (by first | omega | (simp; done) | (simp; omega)) _ | refine Below.alloc ?_ (by first | omega | (simp; done) | (simp; omega)) _ | refine below_drewN ?_ _ | refine Below.drew ?_)
/-- The document's bearing. -/
theorem down_example (w : World) :
    Calls Try.prog 59 #[.agg #[.int .i64 0, .int .i64 100, .int .i64 0, .int .i64 10000, .int .i64 5000], .int .i64 70000] w fun e w' => e = .returned (.tuple #[.agg #[.int .i64 2100, .int .i64 1], .int .i64 0]) ∧ Below w.heap.size w w' := by
  have h := plDownB_ok 0 100 0 10000 5000 70000 w (by decide +kernel) (by omega)
  rw [show lowN (70000 * steep 0 100 0 10000 5000) (10000 * 5000) = 2100 by decide +kernel, show lowD (70000 * steep 0 100 0 10000 5000) (10000 * 5000) = 1 by decide +kernel] at h
  exact h
end Go.Proofs.Ytjfcjclhbnmgcaa
