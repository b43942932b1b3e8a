/- agraffetop.counts answers true: the examples of chapter 1 are so. -/
import Derived.Test.YtjomcobhinnikaaAwake
namespace Go.Proofs.Ytjomcobhinnikaa
open Go.RowKit
set_option linter.unusedVariables false
set_option linter.unusedSimpArgs false

theorem one_solved (w : World) (g : Nat) (hB : Blk w g 57 #[.int .i64 0, .int .i64 1, .int .i64 (-2)]) :
    Calls Try.prog 19 #[.int .i64 2, .slice (some ⟨g, 0, none⟩) 1 1] w fun e w' => ∃ g1, e = .returned (.tuple #[.slice (some ⟨g1, 0, none⟩) 2 2, .slice none 0 0, .int .i64 0]) ∧
      (w'.ownsRow w.heap.size 3 1 (.slice (some ⟨g1, 0, none⟩) 2 2) 2 (i64s [0, -2])) ∧ Below w.heap.size w w' := by
  have hbn : Bnds w w.heap.size (some ⟨g, 0, none⟩) [(0, 1, -2)] := fun _ => ⟨g, 0, rfl, hB.lt, fun i hi => by
    match i, hi with
    | 0, _ => exact ⟨hB.cell 0, hB.cell 1, hB.cell 2⟩⟩
  have h := solve_ok 2 (some ⟨g, 0, none⟩) 1 1 1 [(0, 1, -2)] w rfl hbn (by decide +kernel) (by omega) (fun q hq => by (obtain rfl : q = 0 := by omega); decide +kernel) (by decide +kernel)
  refine h.mono fun e w' ⟨g1, he, ho, hb⟩ => ⟨g1, he, ?_, hb⟩
  have e1 : (solveSt [(0, 1, -2)] 2 (1 + 1)).vs = [0, -2] := by decide +kernel
  rw [e1] at ho
  exact ho

set_option maxHeartbeats 4000000 in
set_option maxRecDepth 100000 in
theorem counts_any (w : World) : Calls Try.prog 6 #[] w fun e w' => e = .returned (.bool true) ∧ Below w.heap.size w w' := by
  go_enter Try.func6, Try.ntmps6
  go_wp2_with fail
  refine (comma_any _).mono ?_
  rintro e w1 ⟨rfl, hb1⟩
  go_wp2_with fail
  refine (comma_enclosed _).mono ?_
  rintro e w2 ⟨rfl, hb2⟩
  have HB2 := hide (hb1.trans (hb2.mono hb1.size))
  clear hb1 hb2
  go_wp2_with fail
  refine (one_solved _ (w2.heap.size + 1) (Blk.new _ _ _ _ (by simp))).mono ?_
  rintro e w3 ⟨g1, rfl, ho3, hb3⟩
  have R3 : Hid (Blk w3 w2.heap.size 47 #[.int .i64 1013, .int .i64 1014]) := ((Blk.new w2 _ _ _ rfl).alloc _).kept hb3
  have HB3 : Hid (Below w.heap.size w w3) := ((HB2.out.alloc HB2.out.size _).alloc (by have := HB2.out.size; simp; omega) _).trans (hb3.mono (by have := HB2.out.size; simp; omega))
  have X4 : Hid (∀ j, j < 2 → w3.cell? ⟨g1, 0 + j, none⟩ = some (.int .i64 (([0, -2] : List Int).getD j 0))) := fun j hj => by
    rw [Nat.zero_add, ho3.cellAt j (by omega)]
    match j, hj with
    | 0, _ => rfl
    | 1, _ => rfl
  have lg1 : Hid (g1 < w3.heap.size) := (World.ownsRow.lt ho3 g1 rfl).2
  clear hb3 ho3
  obtain ⟨⟨r0, r1⟩, _⟩ := R3.out.c2
  have lr := R3.out.lt
  go_wp2_with fail
  refine (ints_same (some ⟨g1, 0, none⟩) (some ⟨w3.heap.size, 0, none⟩) 2 2 2 [0, -2] [0, -2] _ rfl rfl (by omega) ?_ ?_).mono ?_
  · intro _
    refine ⟨g1, 0, rfl, fun j hj => ?_⟩
    have hl := lg1.out
    rw [World.cell?_alloc_past _ _ _ (by omega)]
    exact X4.out j hj
  · intro _
    refine ⟨w3.heap.size, 0, rfl, fun j hj => ?_⟩
    rw [Nat.zero_add, World.cell?_alloc_at _ _ _ _ rfl]
    match j, hj with
    | 0, _ => rfl
    | 1, _ => rfl
  rintro e w6 ⟨rfl, q, rfl⟩
  have hd : decide (([0, -2] : List Int) = [0, -2]) = true := by decide
  rw [hd]
  clear hd
  go_wp2
  go_ret
  refine ⟨rfl, ?_⟩
  refine below_drewN ?_ _
  exact HB3.out.alloc HB3.out.size _

end Go.Proofs.Ytjomcobhinnikaa
