/- number.Line once more: refused dots; the best line by its parts. -/
import Derived.Test.YtjomcobhinnikaaLineA
namespace Go.Proofs.Ytjomcobhinnikaa
open Go.RowKit
set_option linter.unusedVariables false
set_option linter.unusedSimpArgs false

set_option maxHeartbeats 1000000 in
set_option maxRecDepth 100000 in
theorem line_bad (A : Option Addr) (n cap : Nat) (ds : List (Int × Int)) (E : Int) (w : World) (hn : ds.length = n) (hD : Dots w w.heap.size A ds) (hE : dotsErr ds = E) (h0 : E ≠ 0) :
    Calls Try.prog 9 #[.slice A n cap] w fun e w' => e = .returned (.tuple #[.agg #[.int .i64 0, .int .i64 0, .int .i64 0, .int .i64 0, .int .i64 0, .int .i64 0, .int .i64 0, .int .i64 0, .int .i64 0], .int .i64 E]) ∧ Below w.heap.size w w' := by
  have HN := hide hn
  have HD : Hid (Dots (w.alloc (.cells #[.int .i64 0, .int .i64 0, .int .i64 0, .int .i64 0, .int .i64 0, .int .i64 0, .int .i64 0, .int .i64 0, .int .i64 0] 32)) (w.heap.size + 1) A ds) := fun h0 => by
    obtain ⟨b, off, e, hb, hc⟩ := hD h0
    exact ⟨b, off, e, by omega, fun i hi => by
      rw [World.cell?_alloc_past _ _ _ hb, World.cell?_alloc_past _ _ _ hb]
      exact hc i hi⟩
  have HE := hide hE
  have b1 : (E != 0) = true := by rw [bne_iff_ne]; exact h0
  clear hn hD hE h0
  have L0 := hide (Lv.start w)
  go_enter Try.func9, Try.ntmps9
  go_wp2_with fail
  refine Lv.call (checkDots_any A n cap ds _ HN.out (by simpa using HD.out)) (L0.out.put _ _) ?_
  intro w1 L1'
  have L1 := hide L1'
  have F1 := L1'.at
  clear L1'
  simp only [AllAt, CellsAt, updL, List.map, Nat.zero_add, Nat.reduceAdd, and_true, World.size_alloc, World.heap_drewN, heap_drew, size_set, Nat.add_eq_left, Nat.left_eq_add, Nat.add_right_cancel_iff, ne_up2, ne_dn2, ne_up3, ne_dn3, ne_up4, ne_dn4, Nat.reduceEqDiff, Nat.one_ne_zero, Nat.succ_ne_zero, Nat.zero_ne_one, reduceIte, List.set_cons_zero, List.set_cons_succ] at F1
  rw [HE.out]
  go_wp2
  refine bodyPost_ret (v := .tuple #[.agg #[.int .i64 0, .int .i64 0, .int .i64 0, .int .i64 0, .int .i64 0, .int .i64 0, .int .i64 0, .int .i64 0, .int .i64 0], .int .i64 E]) (by simp [results, Try.results9, go_sem, F1]) rfl ⟨rfl, ?_⟩
  repeat (first | (with_reducible exact L1.out.below) | refine Below.setCell ?_ (by first | omega | (simp; done) | (simp; omega)) _ | refine Below.alloc ?_ (by first | omega | (simp; done) | (simp; omega)) _ | refine below_drewN ?_ _ | refine Below.drew ?_)
/-- The best line, by its parts. -/
theorem line_parts (b off n cap : Nat) (ds : List (Int × Int)) (w : World) (hn : ds.length = n) (hb : b < w.heap.size) (hok : dotsErr ds = 0)
    (hc : ∀ i, i < n → w.cell? ⟨b, off + i * 2, none⟩ = some (.int .i64 (dX ds i)) ∧ w.cell? ⟨b, off + i * 2 + 1, none⟩ = some (.int .i64 (dY ds i))) :
    Calls Try.prog 9 #[.slice (some ⟨b, off, none⟩) n cap] w fun e w' =>
      e = .returned (.tuple #[.agg #[.int .i64 (pSN ds (bestT ds)), .int .i64 (pSD ds (bestT ds)), .int .i64 (pKN ds (bestT ds)), .int .i64 (pKD ds (bestT ds)), .int .i64 (pEN ds (bestT ds)), .int .i64 (pED ds (bestT ds)), .int .i64 ((bestT ds).1 : Nat), .int .i64 ((bestT ds).2.1 : Nat), .int .i64 ((bestT ds).2.2 : Nat)], .int .i64 0]) ∧ Below w.heap.size w w' :=
  (line_good b off n cap ds w hn hb hok hc).mono fun _ _ ⟨h1, h2⟩ => ⟨h2, h1⟩
end Go.Proofs.Ytjomcobhinnikaa
