/- agraffelaw01.awake answers true: the examples of chapter 1 are so. -/
import Derived.Test.YtjomcobhinnikaaEnclose
import Derived.Test.YtjomcobhinnikaaSolve
import Derived.Test.YtjomcobhinnikaaLine
import Derived.Test.YtjomcobhinnikaaInts
namespace Go.Proofs.Ytjomcobhinnikaa
open Go.RowKit

set_option maxHeartbeats 400000 in
theorem comma_any (w : World) : Calls Try.prog 18 #[] w fun e w' => e = .returned (.agg #[.int .i64 (-19), .int .i64 12, .int .i64 0, .int .i64 1]) ∧ Below w.heap.size w w' := by
  go_enter Try.func18, Try.ntmps18
  go_wp2
  exact bodyPost_ret (v := .agg #[.int .i64 (-19), .int .i64 12, .int .i64 0, .int .i64 1]) (by simp [results, Try.results18, go_sem]) rfl ⟨rfl, (Below.refl _ _).alloc (Nat.le_refl _) _⟩

/-- The comma, a thousand times. -/
theorem comma_enclosed (w : World) : Calls Try.prog 17 #[.agg #[.int .i64 (-19), .int .i64 12, .int .i64 0, .int .i64 1], .int .i64 1000] w fun e w' =>
    e = .returned (.tuple #[.agg #[.int .i64 1013, .int .i64 1014], .int .i64 0]) ∧ Below w.heap.size w w' := by
  have h := enclose_core (-19) 12 0 1 (-19) 12 0 1 1000 w (by decide) (by decide +kernel) (by decide +kernel) (by decide +kernel) (by decide +kernel) (by omega) (by omega)
  refine h.mono fun e w' ⟨hb, n, hn, h1, h2, h3⟩ => ?_
  have eF : dnTo (-19) 12 0 3 = 524288 := by decide +kernel
  have eG : upTo (-19) 12 0 3 * 1000 ^ 1 = 531441000 := by decide +kernel
  rw [eF, eG, Nat.pow_one] at h1
  have h2' := h2
  rw [eF, eG, Nat.pow_one] at h2'
  rw [eF, eG, Nat.pow_one] at h3
  have hn' : n = 1013 := by
    by_cases hx : n < 1000000000000000
    · have := h2' hx; omega
    · omega
  subst hn'
  rcases h3 with ⟨h, _⟩ | ⟨_, _, he⟩ | ⟨_, h, _⟩
  · omega
  · exact ⟨he, hb⟩
  · omega

def exBs : List (Int × Int × Int) := [(0, 1, 2), (1, 2, -3), (2, 0, 4)]
def exDs : List (Int × Int) := [(0, 0), (1, 1), (2, 0)]
/-- A block that holds the three bounds; the system is solved. -/
theorem example_solved (w : World) (g : Nat) (hB : Blk w g 57 #[.int .i64 0, .int .i64 1, .int .i64 2, .int .i64 1, .int .i64 2, .int .i64 (-3), .int .i64 2, .int .i64 0, .int .i64 4]) :
    Calls Try.prog 19 #[.int .i64 3, .slice (some ⟨g, 0, none⟩) 3 3] w fun e w' => ∃ g1, e = .returned (.tuple #[.slice (some ⟨g1, 0, none⟩) 3 3, .slice none 0 0, .int .i64 0]) ∧
      (w'.ownsRow w.heap.size 3 1 (.slice (some ⟨g1, 0, none⟩) 3 3) 3 (i64s [0, 0, -3])) ∧ Below w.heap.size w w' := by
  have hbn : Bnds w w.heap.size (some ⟨g, 0, none⟩) exBs := fun _ => ⟨g, 0, rfl, hB.lt, fun i hi => by
    match i, hi with
    | 0, _ => exact ⟨hB.cell 0, hB.cell 1, hB.cell 2⟩
    | 1, _ => exact ⟨hB.cell 3, hB.cell 4, hB.cell 5⟩
    | 2, _ => exact ⟨hB.cell 6, hB.cell 7, hB.cell 8⟩⟩
  have h := solve_ok 3 (some ⟨g, 0, none⟩) 3 3 1 exBs w rfl hbn (by decide +kernel) (by omega) (fun q hq => by obtain rfl : q = 0 := by omega
                                                                                                               decide +kernel) (by decide +kernel)
  refine h.mono fun e w' ⟨g1, he, ho, hb⟩ => ⟨g1, he, ?_, hb⟩
  have e1 : (solveSt exBs 3 (1 + 1)).vs = [0, 0, -3] := by decide +kernel
  rw [e1] at ho
  exact ho
/-- A block that holds the three dots; the best line. -/
theorem example_lined (w : World) (g : Nat) (hB : Blk w g 27 #[.int .i64 0, .int .i64 0, .int .i64 1, .int .i64 1, .int .i64 2, .int .i64 0]) :
    Calls Try.prog 9 #[.slice (some ⟨g, 0, none⟩) 3 3] w fun e w' => e = .returned (.tuple #[.agg #[.int .i64 1, .int .i64 2, .int .i64 0, .int .i64 1, .int .i64 1, .int .i64 2, .int .i64 0, .int .i64 1, .int .i64 2], .int .i64 0]) ∧ Below w.heap.size w w' := by
  have h := line_good g 0 3 3 exDs w rfl hB.lt (by decide +kernel) (fun i hi => by
    match i, hi with
    | 0, _ => exact ⟨hB.cell 0, hB.cell 1⟩
    | 1, _ => exact ⟨hB.cell 2, hB.cell 3⟩
    | 2, _ => exact ⟨hB.cell 4, hB.cell 5⟩)
  refine h.mono fun e w' ⟨hb, he⟩ => ⟨?_, hb⟩
  have e1 : bestT exDs = (0, 1, 2) := by decide +kernel
  rw [e1] at he
  rw [he, trendV_parts]
  have a0 : tSN (dX exDs 0) (dY exDs 0) (dX exDs 1) (dY exDs 1) (dX exDs 2) (dY exDs 2) = 1 := by decide +kernel
  have a1 : tSD (dX exDs 0) (dY exDs 0) (dX exDs 1) (dY exDs 1) (dX exDs 2) (dY exDs 2) = 2 := by decide +kernel
  have a2 : tPN (dX exDs 0) (dY exDs 0) (dX exDs 2) (dY exDs 2) = 0 := by decide +kernel
  have a3 : tPD (dX exDs 0) (dY exDs 0) (dX exDs 2) (dY exDs 2) = 1 := by decide +kernel
  have a4 : tEN (dX exDs 0) (dY exDs 0) (dX exDs 1) (dY exDs 1) (dX exDs 2) (dY exDs 2) = 1 := by decide +kernel
  have a5 : tED (dX exDs 0) (dY exDs 0) (dX exDs 1) (dY exDs 1) (dX exDs 2) (dY exDs 2) = 2 := by decide +kernel
  rw [a0, a1, a2, a3, a4, a5]
  rfl

set_option maxHeartbeats 2000000 in
set_option maxRecDepth 100000 in
theorem awake_any (w : World) : Calls Try.prog 12 #[] w fun e w' => e = .returned (.bool true) ∧ Below w.heap.size w w' := by
  go_enter Try.func12, Try.ntmps12
  go_wp2_with fail
  refine (comma_any _).mono ?_
  rintro e w1 ⟨rfl, hb1⟩
  go_wp2_with fail
  refine (comma_enclosed _).mono ?_
  rintro e w2 ⟨rfl, hb2⟩
  have HB2 := hide (hb1.trans (hb2.mono hb1.size))
  clear hb1 hb2
  go_wp2_with fail
  refine (example_solved _ (w2.heap.size + 1) (Blk.new _ _ _ _ (by simp))).mono ?_
  rintro e w3 ⟨g1, rfl, ho3, hb3⟩
  have R3 : Hid (Blk w3 w2.heap.size 47 #[.int .i64 1013, .int .i64 1014]) := ((Blk.new w2 _ _ _ rfl).alloc _).kept hb3
  have HB3 : Hid (Below w.heap.size w w3) := ((HB2.out.alloc HB2.out.size _).alloc (by have := HB2.out.size; simp; omega) _).trans (hb3.mono (by have := HB2.out.size; simp; omega))
  have HO3 := hide ho3
  clear ho3 hb3
  go_wp2_with fail
  refine (example_lined _ w3.heap.size (Blk.new _ _ _ _ rfl)).mono ?_
  rintro e w4 ⟨rfl, hb4⟩
  have R4 := hide ((R3.out.alloc _).kept hb4)
  have HB4 : Hid (Below w.heap.size w w4) := (HB3.out.alloc HB3.out.size _).trans (hb4.mono (by have := HB3.out.size; simp; omega))
  have X4 : Hid (∀ j, j < 3 → w4.cell? ⟨g1, 0 + j, none⟩ = some (.int .i64 (([0, 0, -3] : List Int).getD j 0))) := fun j hj => by
    have hl := (World.ownsRow.lt HO3.out g1 rfl).2
    rw [Nat.zero_add, hb4.cell (p := ⟨g1, j, none⟩) (by simp; omega), World.cell?_alloc_past _ _ _ hl, HO3.out.cellAt j (by omega)]
    match j, hj with
    | 0, _ => rfl
    | 1, _ => rfl
    | 2, _ => rfl
  have lg1 : Hid (g1 < w4.heap.size) := by have hl := (World.ownsRow.lt HO3.out g1 rfl).2; have := hb4.size; simp at this; show g1 < w4.heap.size; omega
  clear hb4
  obtain ⟨⟨r0, r1⟩, _⟩ := R4.out.c2
  have lr := R4.out.lt
  go_wp2_with fail
  refine (ints_same (some ⟨g1, 0, none⟩) (some ⟨w4.heap.size + 1, 0, none⟩) 3 3 3 [0, 0, -3] [0, 0, -3] _ rfl rfl (by omega) ?_ ?_).mono ?_
  · intro _
    refine ⟨g1, 0, rfl, fun j hj => ?_⟩
    have hl := lg1.out
    rw [World.cell?_alloc_past _ _ _ (by simp; omega), World.cell?_alloc_past _ _ _ hl]
    exact X4.out j hj
  · intro _
    refine ⟨w4.heap.size + 1, 0, rfl, fun j hj => ?_⟩
    rw [Nat.zero_add, World.cell?_alloc_at _ _ _ _ (by simp)]
    match j, hj with
    | 0, _ => rfl
    | 1, _ => rfl
    | 2, _ => rfl
  rintro e w6 ⟨rfl, q, rfl⟩
  have hd : decide (([0, 0, -3] : List Int) = [0, 0, -3]) = true := by decide
  rw [hd]
  clear hd
  go_wp2
  go_ret
  refine ⟨rfl, ?_⟩
  refine below_drewN ?_ _
  exact (HB4.out.alloc HB4.out.size _).alloc (by have := HB4.out.size; simp; omega) _
end Go.Proofs.Ytjomcobhinnikaa
