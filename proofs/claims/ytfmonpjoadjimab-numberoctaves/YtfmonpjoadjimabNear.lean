/- The contract of agraffelaw01.near. -/
import Derived.Test.YtfmonpjoadjimabLive
namespace Go.Proofs.Ytfmonpjoadjimab
open Go.RowKit
set_option linter.unusedVariables false
set_option linter.unusedSimpArgs false

def nearE (x : Int) : Prop := ¬ (-400 ≤ x ∧ x ≤ -61) ∧ ¬ (61 ≤ x ∧ x ≤ 400)
instance (x : Int) : Decidable (nearE x) := inferInstanceAs (Decidable (_ ∧ _))
def nearB (a b c : Int) : Bool := decide (nearE a ∧ nearE b ∧ nearE c)
set_option maxHeartbeats 2000000 in
set_option maxRecDepth 100000 in
theorem near_any (a b c d : Int) (w : World) :
    Calls Try.prog 10 #[.agg #[.int .i64 a, .int .i64 b, .int .i64 c, .int .i64 d]] w fun r w' => r = .returned (.bool (nearB a b c)) ∧ Below w.heap.size w w' := by
  have q0 : ∀ w : World, (Instr.index 74 (.agg #[.int .i64 a, .int .i64 b, .int .i64 c]) (.int .i64 0)).run Try.prog w = .ok (.int .i64 a) w := fun _ => by kernel_rfl
  have q1 : ∀ w : World, (Instr.index 74 (.agg #[.int .i64 a, .int .i64 b, .int .i64 c]) (.int .i64 1)).run Try.prog w = .ok (.int .i64 b) w := fun _ => by kernel_rfl
  have q2 : ∀ w : World, (Instr.index 74 (.agg #[.int .i64 a, .int .i64 b, .int .i64 c]) (.int .i64 2)).run Try.prog w = .ok (.int .i64 c) w := fun _ => by kernel_rfl
  have L0 := hide (Lv.start w)
  go_enter Try.func10, Try.ntmps10
  go_wp2
  go_loopw [12] (fun i wr => Hid (Lv w wr [(w.heap.size, 23, [.int .i64 a, .int .i64 b, .int .i64 c, .int .i64 d])]) ∧ (i = .int .i64 0 ∨ (i = .int .i64 1 ∧ Hid (nearE a)) ∨ (i = .int .i64 2 ∧ Hid (nearE a) ∧ Hid (nearE b)) ∨ (i = .int .i64 3 ∧ Hid (nearE a) ∧ Hid (nearE b) ∧ Hid (nearE c)))) (fun i _ => 3 - (intOf i).toNat)
  case atStart => exact ⟨hide (by simpa using L0.out.put _ _), Or.inl rfl⟩
  case round =>
    obtain ⟨L1, rfl | ⟨rfl, HA⟩ | ⟨rfl, HA, HB⟩ | ⟨rfl, HA, HB, HC⟩⟩ := hrel
    · have F1 := L1.out.at
      simp only [AllAt, CellsAt, updL, List.map, Nat.zero_add, Nat.reduceAdd, and_true, World.size_alloc, World.heap_drewN, heap_drew, size_set, Nat.add_eq_left, Nat.left_eq_add, Nat.add_right_cancel_iff, Nat.reduceEqDiff, Nat.one_ne_zero, Nat.succ_ne_zero, Nat.zero_ne_one, reduceIte, List.set_cons_zero, List.set_cons_succ] at F1
      by_cases h1 : -400 ≤ a ∧ a ≤ -61
      · have hb : inR a (-400) (-61) = true := inR_yes h1
        have HN : Hid (nearB a b c = false) := decide_eq_false fun hh => hh.1.1 h1
        clear h1
        go_wp2_with fail
        refine Lv.same (within3_any a (-400) (-61) _) ?_
        rw [hb]
        go_wp2
        go_ret
        exact ⟨ret_bool HN.out.symm, L1.out.below⟩
      · have hb : inR a (-400) (-61) = false := inR_no h1
        by_cases h2 : 61 ≤ a ∧ a ≤ 400
        · have hb2 : inR a 61 400 = true := inR_yes h2
          have HN : Hid (nearB a b c = false) := decide_eq_false fun hh => hh.1.2 h2
          clear h1 h2
          go_wp2_with fail
          refine Lv.same (within3_any a (-400) (-61) _) ?_
          rw [hb]
          go_wp2_with fail
          refine Lv.same (within3_any a 61 400 _) ?_
          rw [hb2]
          go_wp2
          go_ret
          exact ⟨ret_bool HN.out.symm, L1.out.below⟩
        · have hb2 : inR a 61 400 = false := inR_no h2
          have HX : Hid (nearE a) := ⟨h1, h2⟩
          clear h1 h2
          go_wp2_with fail
          refine Lv.same (within3_any a (-400) (-61) _) ?_
          rw [hb]
          go_wp2_with fail
          refine Lv.same (within3_any a 61 400 _) ?_
          rw [hb2]
          go_wp2
          go_roundw
          case rel => exact ⟨L1, Or.inr (Or.inl ⟨rfl, HX⟩)⟩
          case measure => simp [intOf]
    · have F1 := L1.out.at
      simp only [AllAt, CellsAt, updL, List.map, Nat.zero_add, Nat.reduceAdd, and_true, World.size_alloc, World.heap_drewN, heap_drew, size_set, Nat.add_eq_left, Nat.left_eq_add, Nat.add_right_cancel_iff, Nat.reduceEqDiff, Nat.one_ne_zero, Nat.succ_ne_zero, Nat.zero_ne_one, reduceIte, List.set_cons_zero, List.set_cons_succ] at F1
      by_cases h1 : -400 ≤ b ∧ b ≤ -61
      · have hb : inR b (-400) (-61) = true := inR_yes h1
        have HN : Hid (nearB a b c = false) := decide_eq_false fun hh => hh.2.1.1 h1
        clear h1
        go_wp2_with fail
        refine Lv.same (within3_any b (-400) (-61) _) ?_
        rw [hb]
        go_wp2
        go_ret
        exact ⟨ret_bool HN.out.symm, L1.out.below⟩
      · have hb : inR b (-400) (-61) = false := inR_no h1
        by_cases h2 : 61 ≤ b ∧ b ≤ 400
        · have hb2 : inR b 61 400 = true := inR_yes h2
          have HN : Hid (nearB a b c = false) := decide_eq_false fun hh => hh.2.1.2 h2
          clear h1 h2
          go_wp2_with fail
          refine Lv.same (within3_any b (-400) (-61) _) ?_
          rw [hb]
          go_wp2_with fail
          refine Lv.same (within3_any b 61 400 _) ?_
          rw [hb2]
          go_wp2
          go_ret
          exact ⟨ret_bool HN.out.symm, L1.out.below⟩
        · have hb2 : inR b 61 400 = false := inR_no h2
          have HX : Hid (nearE b) := ⟨h1, h2⟩
          clear h1 h2
          go_wp2_with fail
          refine Lv.same (within3_any b (-400) (-61) _) ?_
          rw [hb]
          go_wp2_with fail
          refine Lv.same (within3_any b 61 400 _) ?_
          rw [hb2]
          go_wp2
          go_roundw
          case rel => exact ⟨L1, Or.inr (Or.inr (Or.inl ⟨rfl, HA, HX⟩))⟩
          case measure => simp [intOf]
    · have F1 := L1.out.at
      simp only [AllAt, CellsAt, updL, List.map, Nat.zero_add, Nat.reduceAdd, and_true, World.size_alloc, World.heap_drewN, heap_drew, size_set, Nat.add_eq_left, Nat.left_eq_add, Nat.add_right_cancel_iff, Nat.reduceEqDiff, Nat.one_ne_zero, Nat.succ_ne_zero, Nat.zero_ne_one, reduceIte, List.set_cons_zero, List.set_cons_succ] at F1
      by_cases h1 : -400 ≤ c ∧ c ≤ -61
      · have hb : inR c (-400) (-61) = true := inR_yes h1
        have HN : Hid (nearB a b c = false) := decide_eq_false fun hh => hh.2.2.1 h1
        clear h1
        go_wp2_with fail
        refine Lv.same (within3_any c (-400) (-61) _) ?_
        rw [hb]
        go_wp2
        go_ret
        exact ⟨ret_bool HN.out.symm, L1.out.below⟩
      · have hb : inR c (-400) (-61) = false := inR_no h1
        by_cases h2 : 61 ≤ c ∧ c ≤ 400
        · have hb2 : inR c 61 400 = true := inR_yes h2
          have HN : Hid (nearB a b c = false) := decide_eq_false fun hh => hh.2.2.2 h2
          clear h1 h2
          go_wp2_with fail
          refine Lv.same (within3_any c (-400) (-61) _) ?_
          rw [hb]
          go_wp2_with fail
          refine Lv.same (within3_any c 61 400 _) ?_
          rw [hb2]
          go_wp2
          go_ret
          exact ⟨ret_bool HN.out.symm, L1.out.below⟩
        · have hb2 : inR c 61 400 = false := inR_no h2
          have HX : Hid (nearE c) := ⟨h1, h2⟩
          clear h1 h2
          go_wp2_with fail
          refine Lv.same (within3_any c (-400) (-61) _) ?_
          rw [hb]
          go_wp2_with fail
          refine Lv.same (within3_any c 61 400 _) ?_
          rw [hb2]
          go_wp2
          go_roundw
          case rel => exact ⟨L1, Or.inr (Or.inr (Or.inr ⟨rfl, HA, HB, HX⟩))⟩
          case measure => simp [intOf]
    · have HN : Hid (nearB a b c = true) := decide_eq_true ⟨HA.out, HB.out, HC.out⟩
      go_wp2
      go_ret
      exact ⟨ret_bool HN.out.symm, L1.out.below⟩
end Go.Proofs.Ytfmonpjoadjimab
