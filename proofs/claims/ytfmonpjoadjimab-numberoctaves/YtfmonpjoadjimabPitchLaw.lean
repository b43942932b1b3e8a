/- The contract of agraffelaw01.pitches of one and of two pitches. -/
import Derived.Test.YtfmonpjoadjimabRefPitch
namespace Go.Proofs.Ytfmonpjoadjimab
open Go.RowKit
set_option linter.unusedVariables false
set_option linter.unusedSimpArgs false

theorem okP_bool (a b c d : Int) : (okP a b c d ∧ decide (okP a b c d) = true) ∨ (¬ okP a b c d ∧ decide (okP a b c d) = false) := by
  by_cases h : okP a b c d
  · exact Or.inl ⟨h, decide_eq_true h⟩
  · exact Or.inr ⟨h, decide_eq_false h⟩
set_option maxHeartbeats 1000000 in
set_option maxRecDepth 100000 in
theorem lawPitches1_any (bk cap : Nat) (a b c d : Int) (w : World) (hB : Blk w bk 23 #[.int .i64 a, .int .i64 b, .int .i64 c, .int .i64 d]) :
    Calls Try.prog 12 #[.slice (some ⟨bk, 0, none⟩) 1 cap] w fun x w' => x = .returned (.int .i64 (pitchErr a b c d)) ∧ Below w.heap.size w w' := by
  have L0 : Hid (Lv w w [(bk, 23, [.int .i64 a, .int .i64 b, .int .i64 c, .int .i64 d])]) := ⟨Below.refl _ _, fun x hx => by simp at hx; subst hx; exact hB⟩
  clear hB
  go_enter Try.func12, Try.ntmps12
  go_wp2
  go_loopw [3] (fun i wr => Hid (Lv w wr [(bk, 23, [.int .i64 a, .int .i64 b, .int .i64 c, .int .i64 d])]) ∧ (i = .int .i64 0 ∨ (i = .int .i64 1 ∧ Hid (okP a b c d)))) (fun i _ => 1 - (intOf i).toNat)
  case atStart => exact ⟨L0, Or.inl rfl⟩
  case round =>
    obtain ⟨L1, rfl | ⟨rfl, HA⟩⟩ := hrel
    · have F1 := L1.out.at
      simp only [AllAt, CellsAt, updL, List.map, Nat.zero_add, Nat.reduceAdd, and_true, World.size_alloc, World.heap_drewN, heap_drew, size_set, Nat.add_eq_left, Nat.left_eq_add, Nat.add_right_cancel_iff, Nat.reduceEqDiff, Nat.one_ne_zero, Nat.succ_ne_zero, Nat.zero_ne_one, reduceIte, List.set_cons_zero, List.set_cons_succ] at F1
      go_wp2_with fail
      refine Lv.call (isPitch_any a b c d _) L1.out ?_
      intro w2 L2'
      have L2 := hide L2'
      have F2 := L2'.at
      clear L2' F1
      simp only [AllAt, CellsAt, updL, List.map, Nat.zero_add, Nat.reduceAdd, and_true, World.size_alloc, World.heap_drewN, heap_drew, size_set, Nat.add_eq_left, Nat.left_eq_add, Nat.add_right_cancel_iff, Nat.reduceEqDiff, Nat.one_ne_zero, Nat.succ_ne_zero, Nat.zero_ne_one, reduceIte, List.set_cons_zero, List.set_cons_succ] at F2
      rcases okP_bool a b c d with ⟨hok, hE⟩ | ⟨hno, hE⟩
      · rw [hE]
        have H := hide hok
        clear hE hok
        go_wp2
        go_roundw
        case rel => exact ⟨L2.out.of (by simp), Or.inr ⟨rfl, H⟩⟩
        case measure => simp [intOf]
      · have HE : Hid (pitchErr a b c d = 2) := if_neg hno
        rw [hE]
        clear hE hno
        go_wp2
        go_ret
        exact ⟨ret_int HE.out.symm, L2.out.below⟩
    · have HE : Hid (pitchErr a b c d = 0) := if_pos HA.out
      go_wp2
      go_ret
      exact ⟨ret_int HE.out.symm, L1.out.below⟩

set_option maxHeartbeats 1000000 in
set_option maxRecDepth 100000 in
theorem lawPitches2_any (bk cap : Nat) (a b c d e f g h : Int) (w : World) (hB : Blk w bk 23 #[.int .i64 a, .int .i64 b, .int .i64 c, .int .i64 d, .int .i64 e, .int .i64 f, .int .i64 g, .int .i64 h]) :
    Calls Try.prog 12 #[.slice (some ⟨bk, 0, none⟩) 2 cap] w fun x w' => x = .returned (.int .i64 (pitchesErr a b c d e f g h)) ∧ Below w.heap.size w w' := by
  have L0 : Hid (Lv w w [(bk, 23, [.int .i64 a, .int .i64 b, .int .i64 c, .int .i64 d, .int .i64 e, .int .i64 f, .int .i64 g, .int .i64 h])]) := ⟨Below.refl _ _, fun x hx => by simp at hx; subst hx; exact hB⟩
  clear hB
  go_enter Try.func12, Try.ntmps12
  go_wp2
  go_loopw [3] (fun i wr => Hid (Lv w wr [(bk, 23, [.int .i64 a, .int .i64 b, .int .i64 c, .int .i64 d, .int .i64 e, .int .i64 f, .int .i64 g, .int .i64 h])]) ∧ (i = .int .i64 0 ∨ (i = .int .i64 1 ∧ Hid (okP a b c d)) ∨ (i = .int .i64 2 ∧ Hid (okP a b c d) ∧ Hid (okP e f g h)))) (fun i _ => 2 - (intOf i).toNat)
  case atStart => exact ⟨L0, Or.inl rfl⟩
  case round =>
    obtain ⟨L1, rfl | ⟨rfl, HA⟩ | ⟨rfl, HA, HC⟩⟩ := hrel
    · have F1 := L1.out.at
      simp only [AllAt, CellsAt, updL, List.map, Nat.zero_add, Nat.reduceAdd, and_true, World.size_alloc, World.heap_drewN, heap_drew, size_set, Nat.add_eq_left, Nat.left_eq_add, Nat.add_right_cancel_iff, Nat.reduceEqDiff, Nat.one_ne_zero, Nat.succ_ne_zero, Nat.zero_ne_one, reduceIte, List.set_cons_zero, List.set_cons_succ] at F1
      go_wp2_with fail
      refine Lv.call (isPitch_any a b c d _) L1.out ?_
      intro w2 L2'
      have L2 := hide L2'
      have F2 := L2'.at
      clear L2' F1
      simp only [AllAt, CellsAt, updL, List.map, Nat.zero_add, Nat.reduceAdd, and_true, World.size_alloc, World.heap_drewN, heap_drew, size_set, Nat.add_eq_left, Nat.left_eq_add, Nat.add_right_cancel_iff, Nat.reduceEqDiff, Nat.one_ne_zero, Nat.succ_ne_zero, Nat.zero_ne_one, reduceIte, List.set_cons_zero, List.set_cons_succ] at F2
      rcases okP_bool a b c d with ⟨hok, hE⟩ | ⟨hno, hE⟩
      · rw [hE]
        have H := hide hok
        clear hE hok
        go_wp2
        go_roundw
        case rel => exact ⟨L2.out.of (by simp), Or.inr (Or.inl ⟨rfl, H⟩)⟩
        case measure => simp [intOf]
      · have HE : Hid (pitchesErr a b c d e f g h = 2) := if_neg fun x => hno x.1
        rw [hE]
        clear hE hno
        go_wp2
        go_ret
        exact ⟨ret_int HE.out.symm, L2.out.below⟩
    · have F1 := L1.out.at
      simp only [AllAt, CellsAt, updL, List.map, Nat.zero_add, Nat.reduceAdd, and_true, World.size_alloc, World.heap_drewN, heap_drew, size_set, Nat.add_eq_left, Nat.left_eq_add, Nat.add_right_cancel_iff, Nat.reduceEqDiff, Nat.one_ne_zero, Nat.succ_ne_zero, Nat.zero_ne_one, reduceIte, List.set_cons_zero, List.set_cons_succ] at F1
      go_wp2_with fail
      refine Lv.call (isPitch_any e f g h _) L1.out ?_
      intro w2 L2'
      have L2 := hide L2'
      have F2 := L2'.at
      clear L2' F1
      simp only [AllAt, CellsAt, updL, List.map, Nat.zero_add, Nat.reduceAdd, and_true, World.size_alloc, World.heap_drewN, heap_drew, size_set, Nat.add_eq_left, Nat.left_eq_add, Nat.add_right_cancel_iff, Nat.reduceEqDiff, Nat.one_ne_zero, Nat.succ_ne_zero, Nat.zero_ne_one, reduceIte, List.set_cons_zero, List.set_cons_succ] at F2
      rcases okP_bool e f g h with ⟨hok, hE⟩ | ⟨hno, hE⟩
      · rw [hE]
        have H := hide hok
        clear hE hok
        go_wp2
        go_roundw
        case rel => exact ⟨L2.out.of (by simp), Or.inr (Or.inr ⟨rfl, HA, H⟩)⟩
        case measure => simp [intOf]
      · have HE : Hid (pitchesErr a b c d e f g h = 2) := if_neg fun x => hno x.2
        rw [hE]
        clear hE hno
        go_wp2
        go_ret
        exact ⟨ret_int HE.out.symm, L2.out.below⟩
    · have HE : Hid (pitchesErr a b c d e f g h = 0) := if_pos ⟨HA.out, HC.out⟩
      go_wp2
      go_ret
      exact ⟨ret_int HE.out.symm, L1.out.below⟩
end Go.Proofs.Ytfmonpjoadjimab
