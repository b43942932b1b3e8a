/- The contract of agrafferef01.IsPitch. -/
import Derived.Test.YtfmonpjoadjimabLive
import Derived.Test.YtfmonpjoadjimabNormal
namespace Go.Proofs.Ytfmonpjoadjimab
open Go.RowKit
set_option linter.unusedVariables false
set_option linter.unusedSimpArgs false

set_option maxHeartbeats 1000000 in
set_option maxRecDepth 100000 in
theorem isPitch_any (a b c d : Int) (w : World) :
    Calls Try.prog 52 #[.agg #[.int .i64 a, .int .i64 b, .int .i64 c, .int .i64 d]] w fun x w' => x = .returned (.bool (decide (okP a b c d))) ∧ Below w.heap.size w w' := by
  have q0 : ∀ w : World, (Instr.index 74 (.agg #[.int .i64 a, .int .i64 b, .int .i64 c]) (.int .i64 0)).run Try.prog w = .ok (.int .i64 a) w := fun _ => by kernel_rfl
  have q1 : ∀ w : World, (Instr.index 74 (.agg #[.int .i64 a, .int .i64 b, .int .i64 c]) (.int .i64 1)).run Try.prog w = .ok (.int .i64 b) w := fun _ => by kernel_rfl
  have q2 : ∀ w : World, (Instr.index 74 (.agg #[.int .i64 a, .int .i64 b, .int .i64 c]) (.int .i64 2)).run Try.prog w = .ok (.int .i64 c) w := fun _ => by kernel_rfl
  have L0 := hide (Lv.start w)
  go_enter Try.func52, Try.ntmps52
  go_wp2
  go_loopw [12] (fun i wr => Hid (Lv w wr [(w.heap.size, 23, [.int .i64 a, .int .i64 b, .int .i64 c, .int .i64 d])]) ∧ (i = .int .i64 0 ∨ (i = .int .i64 1 ∧ Hid (okE a)) ∨ (i = .int .i64 2 ∧ Hid (okE a) ∧ Hid (okE b)) ∨ (i = .int .i64 3 ∧ Hid (okE a) ∧ Hid (okE b) ∧ Hid (okE c)))) (fun i _ => 3 - (intOf i).toNat)
  case atStart => exact ⟨hide (by simpa using L0.out.put _ _), Or.inl rfl⟩
  case round =>
    obtain ⟨L1, rfl | ⟨rfl, HA⟩ | ⟨rfl, HA, HB⟩ | ⟨rfl, HA, HB, HC⟩⟩ := hrel
    · have F1 := L1.out.at
      simp only [AllAt, CellsAt, updL, List.map, Nat.zero_add, Nat.reduceAdd, and_true, World.size_alloc, World.heap_drewN, heap_drew, size_set, Nat.add_eq_left, Nat.left_eq_add, Nat.add_right_cancel_iff, Nat.reduceEqDiff, Nat.one_ne_zero, Nat.succ_ne_zero, Nat.zero_ne_one, reduceIte, List.set_cons_zero, List.set_cons_succ] at F1
      by_cases hx : okE a
      · have hb : inR a (-400) 400 = true := inR_yes hx
        have HX := hide hx
        clear hx
        go_wp2_with fail
        refine Lv.same (within3_any a (-400) 400 _) ?_
        rw [hb]
        go_wp2
        go_roundw
        case rel => exact ⟨L1, Or.inr (Or.inl ⟨rfl, HX⟩)⟩
        case measure => simp [intOf]
      · have hb : inR a (-400) 400 = false := inR_no hx
        have HE : Hid (decide (okP a b c d) = false) := decide_eq_false fun h => hx h.2.1
        clear hx
        go_wp2_with fail
        refine Lv.same (within3_any a (-400) 400 _) ?_
        rw [hb]
        go_wp2
        go_ret
        exact ⟨ret_bool HE.out.symm, L1.out.below⟩
    · have F1 := L1.out.at
      simp only [AllAt, CellsAt, updL, List.map, Nat.zero_add, Nat.reduceAdd, and_true, World.size_alloc, World.heap_drewN, heap_drew, size_set, Nat.add_eq_left, Nat.left_eq_add, Nat.add_right_cancel_iff, Nat.reduceEqDiff, Nat.one_ne_zero, Nat.succ_ne_zero, Nat.zero_ne_one, reduceIte, List.set_cons_zero, List.set_cons_succ] at F1
      by_cases hx : okE b
      · have hb : inR b (-400) 400 = true := inR_yes hx
        have HX := hide hx
        clear hx
        go_wp2_with fail
        refine Lv.same (within3_any b (-400) 400 _) ?_
        rw [hb]
        go_wp2
        go_roundw
        case rel => exact ⟨L1, Or.inr (Or.inr (Or.inl ⟨rfl, HA, HX⟩))⟩
        case measure => simp [intOf]
      · have hb : inR b (-400) 400 = false := inR_no hx
        have HE : Hid (decide (okP a b c d) = false) := decide_eq_false fun h => hx h.2.2.1
        clear hx
        go_wp2_with fail
        refine Lv.same (within3_any b (-400) 400 _) ?_
        rw [hb]
        go_wp2
        go_ret
        exact ⟨ret_bool HE.out.symm, L1.out.below⟩
    · have F1 := L1.out.at
      simp only [AllAt, CellsAt, updL, List.map, Nat.zero_add, Nat.reduceAdd, and_true, World.size_alloc, World.heap_drewN, heap_drew, size_set, Nat.add_eq_left, Nat.left_eq_add, Nat.add_right_cancel_iff, Nat.reduceEqDiff, Nat.one_ne_zero, Nat.succ_ne_zero, Nat.zero_ne_one, reduceIte, List.set_cons_zero, List.set_cons_succ] at F1
      by_cases hx : okE c
      · have hb : inR c (-400) 400 = true := inR_yes hx
        have HX := hide hx
        clear hx
        go_wp2_with fail
        refine Lv.same (within3_any c (-400) 400 _) ?_
        rw [hb]
        go_wp2
        go_roundw
        case rel => exact ⟨L1, Or.inr (Or.inr (Or.inr ⟨rfl, HA, HB, HX⟩))⟩
        case measure => simp [intOf]
      · have hb : inR c (-400) 400 = false := inR_no hx
        have HE : Hid (decide (okP a b c d) = false) := decide_eq_false fun h => hx h.2.2.2
        clear hx
        go_wp2_with fail
        refine Lv.same (within3_any c (-400) 400 _) ?_
        rw [hb]
        go_wp2
        go_ret
        exact ⟨ret_bool HE.out.symm, L1.out.below⟩
    · have F1 := L1.out.at
      simp only [AllAt, CellsAt, updL, List.map, Nat.zero_add, Nat.reduceAdd, and_true, World.size_alloc, World.heap_drewN, heap_drew, size_set, Nat.add_eq_left, Nat.left_eq_add, Nat.add_right_cancel_iff, Nat.reduceEqDiff, Nat.one_ne_zero, Nat.succ_ne_zero, Nat.zero_ne_one, reduceIte, List.set_cons_zero, List.set_cons_succ] at F1
      have HP : Hid (inR d 1 12 = decide (okP a b c d)) := by
        show _ = _
        unfold inR
        rw [decide_eq_decide]
        exact ⟨fun h => ⟨h, HA.out, HB.out, HC.out⟩, fun h => h.1⟩
      go_wp2_with fail
      refine Lv.same (within3_any d 1 12 _) ?_
      go_wp2
      go_ret
      exact ⟨ret_bool HP.out, L1.out.below⟩

end Go.Proofs.Ytfmonpjoadjimab
