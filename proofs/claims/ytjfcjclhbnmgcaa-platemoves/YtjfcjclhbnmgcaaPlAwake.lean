/- agraffelaw03.awake answers true: the examples of chapter 3 are so. -/
import Derived.Test.YtjfcjclhbnmgcaaPlPullK
import Derived.Test.YtjfcjclhbnmgcaaPlDown
import Derived.Test.YtjfcjclhbnmgcaaPlDist
import Derived.Test.YtjfcjclhbnmgcaaPlFracs
namespace Go.Proofs.Ytjfcjclhbnmgcaa
open Go.RowKit
set_option linter.unusedVariables false
set_option linter.unusedSimpArgs false

theorem pull_example (w : World) :
    Calls Try.prog 66 #[.agg #[.int .i64 1000, .int .i64 1000], .agg #[.int .i64 0, .int .i64 0, .int .i64 0], .agg #[.int .i64 100, .int .i64 100, .int .i64 0]] w fun e w' => e = .returned (.tuple #[.agg #[.int .i64 707, .int .i64 708, .int .i64 707, .int .i64 708, .int .i64 0, .int .i64 0], .int .i64 0]) ∧ Below w.heap.size w w' := by
  have h := pull_ok 1000 1000 0 0 0 100 100 0 100 100 0 14142 w (by decide +kernel) (by decide +kernel) (by decide +kernel) rfl rfl rfl (by decide +kernel) (by decide +kernel) ⟨by decide +kernel, fun _ => by decide +kernel, fun _ => by decide +kernel⟩
  have e : pullV 1000 1000 100 100 0 ((14142 : Nat) : Int) (upR 14142 (sq3 100 100 0)) = .tuple #[.agg #[.int .i64 707, .int .i64 708, .int .i64 707, .int .i64 708, .int .i64 0, .int .i64 0], .int .i64 0] := by
    unfold pullV
    rw [show upR 14142 (sq3 100 100 0) = 14143 by decide +kernel]
    rw [show cmpL 1000 1000 100 ((14142 : Nat) : Int) 14143 = 707 by decide +kernel, show cmpH 1000 1000 100 ((14142 : Nat) : Int) 14143 = 708 by decide +kernel, show cmpL 1000 1000 0 ((14142 : Nat) : Int) 14143 = 0 by decide +kernel, show cmpH 1000 1000 0 ((14142 : Nat) : Int) 14143 = 0 by decide +kernel]
  rw [e] at h
  exact h
def exY (i : Nat) : Int := if i = 0 then 0 else if i = 1 then 100 else 300
def exZ (i j : Nat) : Int := if i = 0 then (if j = 0 then 50 else 60) else if i = 1 then (if j = 0 then 200 else 90) else (if j = 0 then 300 else 10)
/-- The loads of the three bars: 30, 75, 55. -/
def exR (i j : Nat) : Int := if j = 0 then (if i = 0 then 30 else if i = 1 then 75 else 55) else 1
theorem dist_example (w : World) (g1 g2 : Nat) (h1 : Blk w g1 3 #[.int .i64 0, .int .i64 100, .int .i64 300]) (h2 : Blk w g2 66 #[.int .i64 50, .int .i64 60, .int .i64 200, .int .i64 90, .int .i64 300, .int .i64 10]) :
    Calls Try.prog 35 #[.slice (some ⟨g1, 0, none⟩) 3 3, .slice (some ⟨g2, 0, none⟩) 3 3] w fun e w' => ∃ g, e = .returned (.tuple #[.slice (some ⟨g, 0, none⟩) 3 3, .int .i64 0]) ∧ Blk w' g 65 #[.int .i64 30, .int .i64 1, .int .i64 75, .int .i64 1, .int .i64 55, .int .i64 1] ∧ Below w.heap.size w w' := by
  have hy : Row1 w w.heap.size (some ⟨g1, 0, none⟩) 3 exY := fun _ => ⟨g1, 0, rfl, h1.lt, fun i hi => by
    match i, hi with
    | 0, _ => exact h1.cell 0
    | 1, _ => exact h1.cell 1
    | 2, _ => exact h1.cell 2⟩
  have hz : Row2 w w.heap.size (some ⟨g2, 0, none⟩) 3 exZ := fun _ => ⟨g2, 0, rfl, h2.lt, fun i hi => by
    match i, hi with
    | 0, _ => exact ⟨h2.cell 0, h2.cell 1⟩
    | 1, _ => exact ⟨h2.cell 2, h2.cell 3⟩
    | 2, _ => exact ⟨h2.cell 4, h2.cell 5⟩⟩
  refine (plDist_ok (some ⟨g1, 0, none⟩) (some ⟨g2, 0, none⟩) 3 3 3 3 exY exZ w hy hz (by decide +kernel) (by decide +kernel)).mono ?_
  rintro e w' ⟨g, _, he, hb, hbb⟩
  refine ⟨g, he, ?_, hbb⟩
  have e1 : slab (3 * 2) (two (barX exZ 3 exY 3) (barY exZ 3 exY 3) 3) = [.int .i64 30, .int .i64 1, .int .i64 75, .int .i64 1, .int .i64 55, .int .i64 1] := by
    have : slab (3 * 2) (two (barX exZ 3 exY 3) (barY exZ 3 exY 3) 3) = [.int .i64 (barX exZ 3 exY 3 0), .int .i64 (barY exZ 3 exY 3 0), .int .i64 (barX exZ 3 exY 3 1), .int .i64 (barY exZ 3 exY 3 1), .int .i64 (barX exZ 3 exY 3 2), .int .i64 (barY exZ 3 exY 3 2)] := rfl
    rw [this]
    rw [show barX exZ 3 exY 3 0 = 30 by decide +kernel, show barY exZ 3 exY 3 0 = 1 by decide +kernel, show barX exZ 3 exY 3 1 = 75 by decide +kernel, show barY exZ 3 exY 3 1 = 1 by decide +kernel, show barX exZ 3 exY 3 2 = 55 by decide +kernel, show barY exZ 3 exY 3 2 = 1 by decide +kernel]
  rw [e1] at hb
  exact hb
theorem Lv.add {w0 w : World} {L : List (Nat × TypeId × List Value)} {g : Nat} {t : TypeId} {cs : List Value} (h : Lv w0 w L) (hB : Blk w g t cs.toArray) : Lv w0 w ((g, t, cs) :: L) :=
  ⟨h.below, fun x hx => by
    rcases List.mem_cons.1 hx with rfl | hx
    · exact hB
    · exact h.blk x hx⟩
theorem row_lit {w : World} {g : Nat} (h : Blk w g 65 #[.int .i64 30, .int .i64 1, .int .i64 75, .int .i64 1, .int .i64 55, .int .i64 1]) : Row2 w w.heap.size (some ⟨g, 0, none⟩) 3 exR := fun _ => ⟨g, 0, rfl, h.lt, fun i hi => by
    match i, hi with
    | 0, _ => exact ⟨h.cell 0, h.cell 1⟩
    | 1, _ => exact ⟨h.cell 2, h.cell 3⟩
    | 2, _ => exact ⟨h.cell 4, h.cell 5⟩⟩
set_option maxHeartbeats 4000000 in
set_option maxRecDepth 100000 in
theorem plAwake_any (w : World) : Calls Try.prog 15 #[] w fun e w' => e = .returned (.bool true) ∧ Below w.heap.size w w' := by
  have L0 := hide (Lv.start w)
  go_enter Try.func15, Try.ntmps15
  go_wp2_with fail
  refine Lv.call (pull_example _) L0.out ?_
  intro w1 L1'
  have L1 := hide L1'
  have F1 := L1'.at
  clear L1'
  simp only [AllAt, CellsAt, updL, List.map, Nat.zero_add, Nat.reduceAdd, and_true, World.size_alloc, World.heap_drewN, heap_drew, size_set, Nat.add_eq_left, Nat.left_eq_add, Nat.add_right_cancel_iff, ne_up2, ne_dn2, ne_up3, ne_dn3, ne_up4, ne_dn4, Nat.reduceEqDiff, Nat.one_ne_zero, Nat.succ_ne_zero, Nat.zero_ne_one, reduceIte, List.set_cons_zero, List.set_cons_succ] at F1
  go_wp2_with fail
  refine (dist_example _ (w1.heap.size + 1) (w1.heap.size + 1 + 1) ((Blk.new _ _ _ _ (by simp)).alloc _) (Blk.new _ _ _ _ (by simp))).mono ?_
  rintro e w2 ⟨g, rfl, hB, hb⟩
  have L2 := hide (((((L1.out.put _ _).put _ _).put _ _).kept hb).drop.drop.add hB)
  clear hB hb F1
  have F2 := L2.out.at; simp only [AllAt, CellsAt, updL, List.map, Nat.zero_add, Nat.reduceAdd, and_true, World.size_alloc, World.heap_drewN, heap_drew, size_set, Nat.add_eq_left, Nat.left_eq_add, Nat.add_right_cancel_iff, ne_up2, ne_dn2, ne_up3, ne_dn3, ne_up4, ne_dn4, Nat.reduceEqDiff, Nat.one_ne_zero, Nat.succ_ne_zero, Nat.zero_ne_one, reduceIte, List.set_cons_zero, List.set_cons_succ] at F2
  go_wp2_with fail
  refine Lv.call (down_example _) L2.out ?_
  intro w3 L3'
  have L3 := hide L3'
  have F3 := L3'.at
  clear L3' F2
  simp only [AllAt, CellsAt, updL, List.map, Nat.zero_add, Nat.reduceAdd, and_true, World.size_alloc, World.heap_drewN, heap_drew, size_set, Nat.add_eq_left, Nat.left_eq_add, Nat.add_right_cancel_iff, ne_up2, ne_dn2, ne_up3, ne_dn3, ne_up4, ne_dn4, Nat.reduceEqDiff, Nat.one_ne_zero, Nat.succ_ne_zero, Nat.zero_ne_one, reduceIte, List.set_cons_zero, List.set_cons_succ] at F3
  have HR3 := hide (L3.out.blk _ List.mem_cons_self)
  go_wp2_with fail
  refine (fracs_same (some ⟨g, 0, none⟩) (some ⟨w3.heap.size + 1, 0, none⟩) 3 3 3 exR _ (by omega) (row_lit ((HR3.out.alloc _).alloc _)) (row_lit (Blk.new _ _ _ _ (by simp)))).mono ?_
  rintro e w4 ⟨rfl, hb⟩
  have L4 := hide (((L3.out.put _ _).put _ _).kept hb)
  clear hb F3
  have F4 := L4.out.at; simp only [AllAt, CellsAt, updL, List.map, Nat.zero_add, Nat.reduceAdd, and_true, World.size_alloc, World.heap_drewN, heap_drew, size_set, Nat.add_eq_left, Nat.left_eq_add, Nat.add_right_cancel_iff, ne_up2, ne_dn2, ne_up3, ne_dn3, ne_up4, ne_dn4, Nat.reduceEqDiff, Nat.one_ne_zero, Nat.succ_ne_zero, Nat.zero_ne_one, reduceIte, List.set_cons_zero, List.set_cons_succ] at F4
  go_wp2
  go_ret
  exact ⟨rfl, L4.out.below⟩
end Go.Proofs.Ytjfcjclhbnmgcaa
