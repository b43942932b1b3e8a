/- PROVED HERE: Rows.NumberScaledSaid: agraffelaw01.NumberScaled returns true for every input, and its arguments read behind the call as before. -/
import Derived.Test.YtnilfacofikoaaaLift
import Derived.Test.YtnilfacofikoaaaAwake
import Derived.Test.YtnilfacofikoaaaRefScal
import Derived.Test.YtnilfacofikoaaaRefRange
namespace Go.Proofs.Ytnilfacofikoaaa
open Go.ChangeShapes Go.WideShapes Go.ChangeAt Go.RowKit Go.Joins
set_option linter.unusedVariables false
set_option linter.unusedSimpArgs false

theorem sc_in {a b m d : Int} (hd : 1 ≤ d) (hab : a ≤ b) : (scX a b m d * d ≤ a * m ∧ a * m ≤ scY a b m d * d) ∧ (scX a b m d * d ≤ b * m ∧ b * m ≤ scY a b m d * d) := by
  have f1 : ∀ x : Int, x / d * d ≤ x := fun x => Int.ediv_mul_le x (show d ≠ 0 by omega)
  have f2 : ∀ x : Int, x ≤ -(-x / d) * d := fun x => by
    have := f1 (-x)
    rw [Int.neg_mul]
    omega
  unfold scX scY
  by_cases h : m < 0
  · rw [if_pos h, if_pos h]
    have := Int.mul_le_mul_of_nonpos_right hab (show m ≤ 0 by omega)
    have h1 := f1 (b * m)
    have h2 := f2 (a * m)
    omega
  · rw [if_neg h, if_neg h]
    have := Int.mul_le_mul_of_nonneg_right hab (show 0 ≤ m by omega)
    have h1 := f1 (a * m)
    have h2 := f2 (b * m)
    omega
set_option maxHeartbeats 4000000 in
set_option maxRecDepth 100000 in
theorem numberScaled_walk (a b m d : Int) (w : World) (ha : -9223372036854775808 ≤ a ∧ a ≤ 9223372036854775807) (hb : -9223372036854775808 ≤ b ∧ b ≤ 9223372036854775807) (hm : -9223372036854775808 ≤ m ∧ m ≤ 9223372036854775807) (hd : -9223372036854775808 ≤ d ∧ d ≤ 9223372036854775807) :
    Calls Try.prog 3 #[.agg #[.int .i64 a, .int .i64 b], .agg #[.int .i64 m, .int .i64 d]] w fun x w' => x = .returned (.bool true) ∧ Below w.heap.size w w' := by
  clear ha hb
  rcases rangeErr_cases a b with ⟨hR, ha, hb, hab⟩ | hE | hE
  · rcases fracErr_cases m d with ⟨hE, hf⟩ | hE | hE
    · have C1 := fun W => scaled_ok a b m d W hR ha hb hab hE hf
      have C2 := fun W => refScaled_any a b m d W ha hb hf
      have HR := hide hR
      have HE := hide hE
      have hin := sc_in (m := m) hf.1.1 hab
      have hmm := hf.2.1
      have hd1 := hf.1.1
      have hd2 := hf.2.2
      clear hR hE hab hf
      unfold okB at ha hb
      by_cases hok : okB (scX a b m d) ∧ okB (scY a b m d)
      · have hv : scR a b m d = rangeT (scX a b m d) (scY a b m d) 0 := if_pos hok
        rw [hv] at C1 C2
        obtain ⟨X, hX⟩ : ∃ f, f = scX a b m d := ⟨_, rfl⟩
        obtain ⟨Y, hY⟩ : ∃ f, f = scY a b m d := ⟨_, rfl⟩
        rw [← hX, ← hY] at C1 C2 hin hok
        clear hv hX hY
        obtain ⟨hX, hY⟩ := hok
        unfold okB at hX hY
        replace C1 := hide C1
        replace C2 := hide C2
        have A1 := fun W => abs_any a W (by omega) (by omega)
        have A2 := fun W => abs_any b W (by omega) (by omega)
        have A3 := fun W => abs_any X W (by omega) (by omega)
        have A4 := fun W => abs_any Y W (by omega) (by omega)
        obtain ⟨u1, hu1⟩ : ∃ f : Int, f = (a.natAbs : Int) := ⟨_, rfl⟩
        obtain ⟨u2, hu2⟩ : ∃ f : Int, f = (b.natAbs : Int) := ⟨_, rfl⟩
        obtain ⟨u3, hu3⟩ : ∃ f : Int, f = (X.natAbs : Int) := ⟨_, rfl⟩
        obtain ⟨u4, hu4⟩ : ∃ f : Int, f = (Y.natAbs : Int) := ⟨_, rfl⟩
        rw [← hu1] at A1
        rw [← hu2] at A2
        rw [← hu3] at A3
        rw [← hu4] at A4
        replace A1 := hide A1
        replace A2 := hide A2
        replace A3 := hide A3
        replace A4 := hide A4
        have U1 := hide hu1
        have U2 := hide hu2
        have U3 := hide hu3
        have U4 := hide hu4
        clear hu1 hu2 hu3 hu4
        by_cases k1 : 1000000000 < u1
        · have L0 := hide (Lv.start w)
          go_enter Try.func3, Try.ntmps3
          go_wp2_with fail
          refine Lv.call (awake_any _) ((L0.out.put _ _).put _ _) ?_
          intro w2 L2'
          have L2 := hide L2'
          have F2 := L2'.at
          clear L2'
          simp only [AllAt, CellsAt, updL, List.map, Nat.zero_add, Nat.reduceAdd, and_true, World.size_alloc, World.heap_drewN, heap_drew, size_set, Nat.add_eq_left, Nat.left_eq_add, Nat.add_right_cancel_iff, ne_up2, ne_dn2, ne_up3, ne_dn3, ne_up4, ne_dn4, Nat.reduceEqDiff, Nat.one_ne_zero, Nat.succ_ne_zero, Nat.zero_ne_one, reduceIte, List.set_cons_zero, List.set_cons_succ] at F2
          go_wp2_with fail
          refine Lv.call (C1.out _) L2.out ?_
          intro w3 L3'
          have L3 := hide L3'
          have F3 := L3'.at
          clear L3' F2
          simp only [AllAt, CellsAt, updL, List.map, Nat.zero_add, Nat.reduceAdd, and_true, World.size_alloc, World.heap_drewN, heap_drew, size_set, Nat.add_eq_left, Nat.left_eq_add, Nat.add_right_cancel_iff, ne_up2, ne_dn2, ne_up3, ne_dn3, ne_up4, ne_dn4, Nat.reduceEqDiff, Nat.one_ne_zero, Nat.succ_ne_zero, Nat.zero_ne_one, reduceIte, List.set_cons_zero, List.set_cons_succ] at F3
          unfold rangeT
          go_wp2_with fail
          refine Lv.call (refCheckRange_any a b _) (L3.out.put _ _) ?_
          intro w4 L4'
          have L4 := hide L4'
          have F4 := L4'.at
          clear L4' F3
          simp only [AllAt, CellsAt, updL, List.map, Nat.zero_add, Nat.reduceAdd, and_true, World.size_alloc, World.heap_drewN, heap_drew, size_set, Nat.add_eq_left, Nat.left_eq_add, Nat.add_right_cancel_iff, ne_up2, ne_dn2, ne_up3, ne_dn3, ne_up4, ne_dn4, Nat.reduceEqDiff, Nat.one_ne_zero, Nat.succ_ne_zero, Nat.zero_ne_one, reduceIte, List.set_cons_zero, List.set_cons_succ] at F4
          rw [HR.out]
          go_wp2_with fail
          refine Lv.call (refCheckFrac_any m d _ hm hd) L4.out ?_
          intro w5 L5'
          have L5 := hide L5'
          have F5 := L5'.at
          clear L5' F4
          simp only [AllAt, CellsAt, updL, List.map, Nat.zero_add, Nat.reduceAdd, and_true, World.size_alloc, World.heap_drewN, heap_drew, size_set, Nat.add_eq_left, Nat.left_eq_add, Nat.add_right_cancel_iff, ne_up2, ne_dn2, ne_up3, ne_dn3, ne_up4, ne_dn4, Nat.reduceEqDiff, Nat.one_ne_zero, Nat.succ_ne_zero, Nat.zero_ne_one, reduceIte, List.set_cons_zero, List.set_cons_succ] at F5
          rw [HE.out]
          go_wp2_with fail
          refine Lv.call (C2.out _) L5.out ?_
          intro w6 L6'
          have L6 := hide L6'
          have F6 := L6'.at
          clear L6' F5
          simp only [AllAt, CellsAt, updL, List.map, Nat.zero_add, Nat.reduceAdd, and_true, World.size_alloc, World.heap_drewN, heap_drew, size_set, Nat.add_eq_left, Nat.left_eq_add, Nat.add_right_cancel_iff, ne_up2, ne_dn2, ne_up3, ne_dn3, ne_up4, ne_dn4, Nat.reduceEqDiff, Nat.one_ne_zero, Nat.succ_ne_zero, Nat.zero_ne_one, reduceIte, List.set_cons_zero, List.set_cons_succ] at F6
          unfold rangeT
          go_wp2_with fail
          refine Lv.same (A1.out _) ?_
          go_wp2
          go_ret
          refine ⟨rfl, ?_⟩
          repeat (first | (with_reducible exact L6.out.below) | refine Below.setCell ?_ (by first | omega | (simp; done) | (simp; omega)) _ | refine Below.alloc ?_ (by first | omega | (simp; done) | (simp; omega)) _ | refine below_drewN ?_ _ | refine Below.drew ?_)
        · by_cases k2 : 1000000000 < u2
          · have L0 := hide (Lv.start w)
            go_enter Try.func3, Try.ntmps3
            go_wp2_with fail
            refine Lv.call (awake_any _) ((L0.out.put _ _).put _ _) ?_
            intro w2 L2'
            have L2 := hide L2'
            have F2 := L2'.at
            clear L2'
            simp only [AllAt, CellsAt, updL, List.map, Nat.zero_add, Nat.reduceAdd, and_true, World.size_alloc, World.heap_drewN, heap_drew, size_set, Nat.add_eq_left, Nat.left_eq_add, Nat.add_right_cancel_iff, ne_up2, ne_dn2, ne_up3, ne_dn3, ne_up4, ne_dn4, Nat.reduceEqDiff, Nat.one_ne_zero, Nat.succ_ne_zero, Nat.zero_ne_one, reduceIte, List.set_cons_zero, List.set_cons_succ] at F2
            go_wp2_with fail
            refine Lv.call (C1.out _) L2.out ?_
            intro w3 L3'
            have L3 := hide L3'
            have F3 := L3'.at
            clear L3' F2
            simp only [AllAt, CellsAt, updL, List.map, Nat.zero_add, Nat.reduceAdd, and_true, World.size_alloc, World.heap_drewN, heap_drew, size_set, Nat.add_eq_left, Nat.left_eq_add, Nat.add_right_cancel_iff, ne_up2, ne_dn2, ne_up3, ne_dn3, ne_up4, ne_dn4, Nat.reduceEqDiff, Nat.one_ne_zero, Nat.succ_ne_zero, Nat.zero_ne_one, reduceIte, List.set_cons_zero, List.set_cons_succ] at F3
            unfold rangeT
            go_wp2_with fail
            refine Lv.call (refCheckRange_any a b _) (L3.out.put _ _) ?_
            intro w4 L4'
            have L4 := hide L4'
            have F4 := L4'.at
            clear L4' F3
            simp only [AllAt, CellsAt, updL, List.map, Nat.zero_add, Nat.reduceAdd, and_true, World.size_alloc, World.heap_drewN, heap_drew, size_set, Nat.add_eq_left, Nat.left_eq_add, Nat.add_right_cancel_iff, ne_up2, ne_dn2, ne_up3, ne_dn3, ne_up4, ne_dn4, Nat.reduceEqDiff, Nat.one_ne_zero, Nat.succ_ne_zero, Nat.zero_ne_one, reduceIte, List.set_cons_zero, List.set_cons_succ] at F4
            rw [HR.out]
            go_wp2_with fail
            refine Lv.call (refCheckFrac_any m d _ hm hd) L4.out ?_
            intro w5 L5'
            have L5 := hide L5'
            have F5 := L5'.at
            clear L5' F4
            simp only [AllAt, CellsAt, updL, List.map, Nat.zero_add, Nat.reduceAdd, and_true, World.size_alloc, World.heap_drewN, heap_drew, size_set, Nat.add_eq_left, Nat.left_eq_add, Nat.add_right_cancel_iff, ne_up2, ne_dn2, ne_up3, ne_dn3, ne_up4, ne_dn4, Nat.reduceEqDiff, Nat.one_ne_zero, Nat.succ_ne_zero, Nat.zero_ne_one, reduceIte, List.set_cons_zero, List.set_cons_succ] at F5
            rw [HE.out]
            go_wp2_with fail
            refine Lv.call (C2.out _) L5.out ?_
            intro w6 L6'
            have L6 := hide L6'
            have F6 := L6'.at
            clear L6' F5
            simp only [AllAt, CellsAt, updL, List.map, Nat.zero_add, Nat.reduceAdd, and_true, World.size_alloc, World.heap_drewN, heap_drew, size_set, Nat.add_eq_left, Nat.left_eq_add, Nat.add_right_cancel_iff, ne_up2, ne_dn2, ne_up3, ne_dn3, ne_up4, ne_dn4, Nat.reduceEqDiff, Nat.one_ne_zero, Nat.succ_ne_zero, Nat.zero_ne_one, reduceIte, List.set_cons_zero, List.set_cons_succ] at F6
            unfold rangeT
            go_wp2_with fail
            refine Lv.same (A1.out _) ?_
            go_wp2_with fail
            refine Lv.same (A2.out _) ?_
            go_wp2
            go_ret
            refine ⟨rfl, ?_⟩
            repeat (first | (with_reducible exact L6.out.below) | refine Below.setCell ?_ (by first | omega | (simp; done) | (simp; omega)) _ | refine Below.alloc ?_ (by first | omega | (simp; done) | (simp; omega)) _ | refine below_drewN ?_ _ | refine Below.drew ?_)
          · by_cases k3 : 1000000000 < u3
            · have L0 := hide (Lv.start w)
              go_enter Try.func3, Try.ntmps3
              go_wp2_with fail
              refine Lv.call (awake_any _) ((L0.out.put _ _).put _ _) ?_
              intro w2 L2'
              have L2 := hide L2'
              have F2 := L2'.at
              clear L2'
              simp only [AllAt, CellsAt, updL, List.map, Nat.zero_add, Nat.reduceAdd, and_true, World.size_alloc, World.heap_drewN, heap_drew, size_set, Nat.add_eq_left, Nat.left_eq_add, Nat.add_right_cancel_iff, ne_up2, ne_dn2, ne_up3, ne_dn3, ne_up4, ne_dn4, Nat.reduceEqDiff, Nat.one_ne_zero, Nat.succ_ne_zero, Nat.zero_ne_one, reduceIte, List.set_cons_zero, List.set_cons_succ] at F2
              go_wp2_with fail
              refine Lv.call (C1.out _) L2.out ?_
              intro w3 L3'
              have L3 := hide L3'
              have F3 := L3'.at
              clear L3' F2
              simp only [AllAt, CellsAt, updL, List.map, Nat.zero_add, Nat.reduceAdd, and_true, World.size_alloc, World.heap_drewN, heap_drew, size_set, Nat.add_eq_left, Nat.left_eq_add, Nat.add_right_cancel_iff, ne_up2, ne_dn2, ne_up3, ne_dn3, ne_up4, ne_dn4, Nat.reduceEqDiff, Nat.one_ne_zero, Nat.succ_ne_zero, Nat.zero_ne_one, reduceIte, List.set_cons_zero, List.set_cons_succ] at F3
              unfold rangeT
              go_wp2_with fail
              refine Lv.call (refCheckRange_any a b _) (L3.out.put _ _) ?_
              intro w4 L4'
              have L4 := hide L4'
              have F4 := L4'.at
              clear L4' F3
              simp only [AllAt, CellsAt, updL, List.map, Nat.zero_add, Nat.reduceAdd, and_true, World.size_alloc, World.heap_drewN, heap_drew, size_set, Nat.add_eq_left, Nat.left_eq_add, Nat.add_right_cancel_iff, ne_up2, ne_dn2, ne_up3, ne_dn3, ne_up4, ne_dn4, Nat.reduceEqDiff, Nat.one_ne_zero, Nat.succ_ne_zero, Nat.zero_ne_one, reduceIte, List.set_cons_zero, List.set_cons_succ] at F4
              rw [HR.out]
              go_wp2_with fail
              refine Lv.call (refCheckFrac_any m d _ hm hd) L4.out ?_
              intro w5 L5'
              have L5 := hide L5'
              have F5 := L5'.at
              clear L5' F4
              simp only [AllAt, CellsAt, updL, List.map, Nat.zero_add, Nat.reduceAdd, and_true, World.size_alloc, World.heap_drewN, heap_drew, size_set, Nat.add_eq_left, Nat.left_eq_add, Nat.add_right_cancel_iff, ne_up2, ne_dn2, ne_up3, ne_dn3, ne_up4, ne_dn4, Nat.reduceEqDiff, Nat.one_ne_zero, Nat.succ_ne_zero, Nat.zero_ne_one, reduceIte, List.set_cons_zero, List.set_cons_succ] at F5
              rw [HE.out]
              go_wp2_with fail
              refine Lv.call (C2.out _) L5.out ?_
              intro w6 L6'
              have L6 := hide L6'
              have F6 := L6'.at
              clear L6' F5
              simp only [AllAt, CellsAt, updL, List.map, Nat.zero_add, Nat.reduceAdd, and_true, World.size_alloc, World.heap_drewN, heap_drew, size_set, Nat.add_eq_left, Nat.left_eq_add, Nat.add_right_cancel_iff, ne_up2, ne_dn2, ne_up3, ne_dn3, ne_up4, ne_dn4, Nat.reduceEqDiff, Nat.one_ne_zero, Nat.succ_ne_zero, Nat.zero_ne_one, reduceIte, List.set_cons_zero, List.set_cons_succ] at F6
              unfold rangeT
              go_wp2_with fail
              refine Lv.same (A1.out _) ?_
              go_wp2_with fail
              refine Lv.same (A2.out _) ?_
              go_wp2_with fail
              refine Lv.same (A3.out _) ?_
              go_wp2
              go_ret
              refine ⟨rfl, ?_⟩
              repeat (first | (with_reducible exact L6.out.below) | refine Below.setCell ?_ (by first | omega | (simp; done) | (simp; omega)) _ | refine Below.alloc ?_ (by first | omega | (simp; done) | (simp; omega)) _ | refine below_drewN ?_ _ | refine Below.drew ?_)
            · by_cases k4 : 1000000000 < u4
              · have L0 := hide (Lv.start w)
                go_enter Try.func3, Try.ntmps3
                go_wp2_with fail
                refine Lv.call (awake_any _) ((L0.out.put _ _).put _ _) ?_
                intro w2 L2'
                have L2 := hide L2'
                have F2 := L2'.at
                clear L2'
                simp only [AllAt, CellsAt, updL, List.map, Nat.zero_add, Nat.reduceAdd, and_true, World.size_alloc, World.heap_drewN, heap_drew, size_set, Nat.add_eq_left, Nat.left_eq_add, Nat.add_right_cancel_iff, ne_up2, ne_dn2, ne_up3, ne_dn3, ne_up4, ne_dn4, Nat.reduceEqDiff, Nat.one_ne_zero, Nat.succ_ne_zero, Nat.zero_ne_one, reduceIte, List.set_cons_zero, List.set_cons_succ] at F2
                go_wp2_with fail
                refine Lv.call (C1.out _) L2.out ?_
                intro w3 L3'
                have L3 := hide L3'
                have F3 := L3'.at
                clear L3' F2
                simp only [AllAt, CellsAt, updL, List.map, Nat.zero_add, Nat.reduceAdd, and_true, World.size_alloc, World.heap_drewN, heap_drew, size_set, Nat.add_eq_left, Nat.left_eq_add, Nat.add_right_cancel_iff, ne_up2, ne_dn2, ne_up3, ne_dn3, ne_up4, ne_dn4, Nat.reduceEqDiff, Nat.one_ne_zero, Nat.succ_ne_zero, Nat.zero_ne_one, reduceIte, List.set_cons_zero, List.set_cons_succ] at F3
                unfold rangeT
                go_wp2_with fail
                refine Lv.call (refCheckRange_any a b _) (L3.out.put _ _) ?_
                intro w4 L4'
                have L4 := hide L4'
                have F4 := L4'.at
                clear L4' F3
                simp only [AllAt, CellsAt, updL, List.map, Nat.zero_add, Nat.reduceAdd, and_true, World.size_alloc, World.heap_drewN, heap_drew, size_set, Nat.add_eq_left, Nat.left_eq_add, Nat.add_right_cancel_iff, ne_up2, ne_dn2, ne_up3, ne_dn3, ne_up4, ne_dn4, Nat.reduceEqDiff, Nat.one_ne_zero, Nat.succ_ne_zero, Nat.zero_ne_one, reduceIte, List.set_cons_zero, List.set_cons_succ] at F4
                rw [HR.out]
                go_wp2_with fail
                refine Lv.call (refCheckFrac_any m d _ hm hd) L4.out ?_
                intro w5 L5'
                have L5 := hide L5'
                have F5 := L5'.at
                clear L5' F4
                simp only [AllAt, CellsAt, updL, List.map, Nat.zero_add, Nat.reduceAdd, and_true, World.size_alloc, World.heap_drewN, heap_drew, size_set, Nat.add_eq_left, Nat.left_eq_add, Nat.add_right_cancel_iff, ne_up2, ne_dn2, ne_up3, ne_dn3, ne_up4, ne_dn4, Nat.reduceEqDiff, Nat.one_ne_zero, Nat.succ_ne_zero, Nat.zero_ne_one, reduceIte, List.set_cons_zero, List.set_cons_succ] at F5
                rw [HE.out]
                go_wp2_with fail
                refine Lv.call (C2.out _) L5.out ?_
                intro w6 L6'
                have L6 := hide L6'
                have F6 := L6'.at
                clear L6' F5
                simp only [AllAt, CellsAt, updL, List.map, Nat.zero_add, Nat.reduceAdd, and_true, World.size_alloc, World.heap_drewN, heap_drew, size_set, Nat.add_eq_left, Nat.left_eq_add, Nat.add_right_cancel_iff, ne_up2, ne_dn2, ne_up3, ne_dn3, ne_up4, ne_dn4, Nat.reduceEqDiff, Nat.one_ne_zero, Nat.succ_ne_zero, Nat.zero_ne_one, reduceIte, List.set_cons_zero, List.set_cons_succ] at F6
                unfold rangeT
                go_wp2_with fail
                refine Lv.same (A1.out _) ?_
                go_wp2_with fail
                refine Lv.same (A2.out _) ?_
                go_wp2_with fail
                refine Lv.same (A3.out _) ?_
                go_wp2_with fail
                refine Lv.same (A4.out _) ?_
                go_wp2
                go_ret
                refine ⟨rfl, ?_⟩
                repeat (first | (with_reducible exact L6.out.below) | refine Below.setCell ?_ (by first | omega | (simp; done) | (simp; omega)) _ | refine Below.alloc ?_ (by first | omega | (simp; done) | (simp; omega)) _ | refine below_drewN ?_ _ | refine Below.drew ?_)
              · have b1 : -1000000000 ≤ a ∧ a ≤ 1000000000 := by have := U1.out; omega
                have b2 : -1000000000 ≤ b ∧ b ≤ 1000000000 := by have := U2.out; omega
                have b3 : -1000000000 ≤ X ∧ X ≤ 1000000000 := by have := U3.out; omega
                have b4 : -1000000000 ≤ Y ∧ Y ≤ 1000000000 := by have := U4.out; omega
                have p1 := mul_bound (x := a) (y := m) 1000000000 1000000000 b1 (by omega)
                have p2 := mul_bound (x := b) (y := m) 1000000000 1000000000 b2 (by omega)
                have p3 := mul_bound (x := X) (y := d) 1000000000 1000000000 b3 (by omega)
                have p4 := mul_bound (x := Y) (y := d) 1000000000 1000000000 b4 (by omega)
                rw [show (1000000000 * 1000000000 : Nat) = 1000000000000000000 from rfl] at p1 p2 p3 p4
                have q0 : ∀ w : World, (Instr.index 35 (.agg #[.int .i64 a, .int .i64 b]) (.int .i64 0)).run Try.prog w = .ok (.int .i64 a) w := fun _ => by kernel_rfl
                have q1 : ∀ w : World, (Instr.index 35 (.agg #[.int .i64 a, .int .i64 b]) (.int .i64 1)).run Try.prog w = .ok (.int .i64 b) w := fun _ => by kernel_rfl
                obtain ⟨⟨i1, i2⟩, i3, i4⟩ := hin
                have L0 := hide (Lv.start w)
                go_enter Try.func3, Try.ntmps3
                go_wp2_with fail
                refine Lv.call (awake_any _) ((L0.out.put _ _).put _ _) ?_
                intro w2 L2'
                have L2 := hide L2'
                have F2 := L2'.at
                clear L2'
                simp only [AllAt, CellsAt, updL, List.map, Nat.zero_add, Nat.reduceAdd, and_true, World.size_alloc, World.heap_drewN, heap_drew, size_set, Nat.add_eq_left, Nat.left_eq_add, Nat.add_right_cancel_iff, ne_up2, ne_dn2, ne_up3, ne_dn3, ne_up4, ne_dn4, Nat.reduceEqDiff, Nat.one_ne_zero, Nat.succ_ne_zero, Nat.zero_ne_one, reduceIte, List.set_cons_zero, List.set_cons_succ] at F2
                go_wp2_with fail
                refine Lv.call (C1.out _) L2.out ?_
                intro w3 L3'
                have L3 := hide L3'
                have F3 := L3'.at
                clear L3' F2
                simp only [AllAt, CellsAt, updL, List.map, Nat.zero_add, Nat.reduceAdd, and_true, World.size_alloc, World.heap_drewN, heap_drew, size_set, Nat.add_eq_left, Nat.left_eq_add, Nat.add_right_cancel_iff, ne_up2, ne_dn2, ne_up3, ne_dn3, ne_up4, ne_dn4, Nat.reduceEqDiff, Nat.one_ne_zero, Nat.succ_ne_zero, Nat.zero_ne_one, reduceIte, List.set_cons_zero, List.set_cons_succ] at F3
                unfold rangeT
                go_wp2_with fail
                refine Lv.call (refCheckRange_any a b _) (L3.out.put _ _) ?_
                intro w4 L4'
                have L4 := hide L4'
                have F4 := L4'.at
                clear L4' F3
                simp only [AllAt, CellsAt, updL, List.map, Nat.zero_add, Nat.reduceAdd, and_true, World.size_alloc, World.heap_drewN, heap_drew, size_set, Nat.add_eq_left, Nat.left_eq_add, Nat.add_right_cancel_iff, ne_up2, ne_dn2, ne_up3, ne_dn3, ne_up4, ne_dn4, Nat.reduceEqDiff, Nat.one_ne_zero, Nat.succ_ne_zero, Nat.zero_ne_one, reduceIte, List.set_cons_zero, List.set_cons_succ] at F4
                rw [HR.out]
                go_wp2_with fail
                refine Lv.call (refCheckFrac_any m d _ hm hd) L4.out ?_
                intro w5 L5'
                have L5 := hide L5'
                have F5 := L5'.at
                clear L5' F4
                simp only [AllAt, CellsAt, updL, List.map, Nat.zero_add, Nat.reduceAdd, and_true, World.size_alloc, World.heap_drewN, heap_drew, size_set, Nat.add_eq_left, Nat.left_eq_add, Nat.add_right_cancel_iff, ne_up2, ne_dn2, ne_up3, ne_dn3, ne_up4, ne_dn4, Nat.reduceEqDiff, Nat.one_ne_zero, Nat.succ_ne_zero, Nat.zero_ne_one, reduceIte, List.set_cons_zero, List.set_cons_succ] at F5
                rw [HE.out]
                go_wp2_with fail
                refine Lv.call (C2.out _) L5.out ?_
                intro w6 L6'
                have L6 := hide L6'
                have F6 := L6'.at
                clear L6' F5
                simp only [AllAt, CellsAt, updL, List.map, Nat.zero_add, Nat.reduceAdd, and_true, World.size_alloc, World.heap_drewN, heap_drew, size_set, Nat.add_eq_left, Nat.left_eq_add, Nat.add_right_cancel_iff, ne_up2, ne_dn2, ne_up3, ne_dn3, ne_up4, ne_dn4, Nat.reduceEqDiff, Nat.one_ne_zero, Nat.succ_ne_zero, Nat.zero_ne_one, reduceIte, List.set_cons_zero, List.set_cons_succ] at F6
                unfold rangeT
                go_wp2_with fail
                refine Lv.same (A1.out _) ?_
                go_wp2_with fail
                refine Lv.same (A2.out _) ?_
                go_wp2_with fail
                refine Lv.same (A3.out _) ?_
                go_wp2_with fail
                refine Lv.same (A4.out _) ?_
                go_wp2
                have L7 := hide (L6.out.put [.int .i64 X, .int .i64 Y] 23)
                have F7 := L7.out.at
                simp only [AllAt, CellsAt, updL, List.map, Nat.zero_add, Nat.reduceAdd, and_true, World.size_alloc, World.heap_drewN, heap_drew, size_set, Nat.add_eq_left, Nat.left_eq_add, Nat.add_right_cancel_iff, ne_up2, ne_dn2, ne_up3, ne_dn3, ne_up4, ne_dn4, Nat.reduceEqDiff, Nat.one_ne_zero, Nat.succ_ne_zero, Nat.zero_ne_one, reduceIte, List.set_cons_zero, List.set_cons_succ] at F7
                clear F6
                go_loopw [80] (fun i wr => wr = w6.alloc (.cells #[.int .i64 X, .int .i64 Y] 23) ∧ (i = .int .i64 0 ∨ i = .int .i64 1 ∨ i = .int .i64 2)) (fun i _ => 2 - (intOf i).toNat)
                case atStart => exact ⟨rfl, Or.inl rfl⟩
                case round =>
                  obtain ⟨rfl, rfl | rfl | rfl⟩ := hrel
                  · go_wp2
                    go_roundw
                    case rel => exact ⟨trivial, Or.inr (Or.inl rfl)⟩
                    case measure => simp [intOf]
                  · go_wp2
                    go_roundw
                    case rel => exact ⟨trivial, Or.inr (Or.inr rfl)⟩
                    case measure => simp [intOf]
                  · go_wp2
                    go_ret
                    refine ⟨rfl, ?_⟩
                    repeat (first | (with_reducible exact L7.out.below) | refine Below.setCell ?_ (by first | omega | (simp; done) | (simp; omega)) _ | refine Below.alloc ?_ (by first | omega | (simp; done) | (simp; omega)) _ | refine below_drewN ?_ _ | refine Below.drew ?_)
      · have hv : scR a b m d = rangeT 0 0 8 := if_neg hok
        rw [hv] at C1 C2
        replace C1 := hide C1
        replace C2 := hide C2
        clear hok hv hin
        have L0 := hide (Lv.start w)
        go_enter Try.func3, Try.ntmps3
        go_wp2_with fail
        refine Lv.call (awake_any _) ((L0.out.put _ _).put _ _) ?_
        intro w2 L2'
        have L2 := hide L2'
        have F2 := L2'.at
        clear L2'
        simp only [AllAt, CellsAt, updL, List.map, Nat.zero_add, Nat.reduceAdd, and_true, World.size_alloc, World.heap_drewN, heap_drew, size_set, Nat.add_eq_left, Nat.left_eq_add, Nat.add_right_cancel_iff, ne_up2, ne_dn2, ne_up3, ne_dn3, ne_up4, ne_dn4, Nat.reduceEqDiff, Nat.one_ne_zero, Nat.succ_ne_zero, Nat.zero_ne_one, reduceIte, List.set_cons_zero, List.set_cons_succ] at F2
        go_wp2_with fail
        refine Lv.call (C1.out _) L2.out ?_
        intro w3 L3'
        have L3 := hide L3'
        have F3 := L3'.at
        clear L3' F2
        simp only [AllAt, CellsAt, updL, List.map, Nat.zero_add, Nat.reduceAdd, and_true, World.size_alloc, World.heap_drewN, heap_drew, size_set, Nat.add_eq_left, Nat.left_eq_add, Nat.add_right_cancel_iff, ne_up2, ne_dn2, ne_up3, ne_dn3, ne_up4, ne_dn4, Nat.reduceEqDiff, Nat.one_ne_zero, Nat.succ_ne_zero, Nat.zero_ne_one, reduceIte, List.set_cons_zero, List.set_cons_succ] at F3
        unfold rangeT
        go_wp2_with fail
        refine Lv.call (refCheckRange_any a b _) (L3.out.put _ _) ?_
        intro w4 L4'
        have L4 := hide L4'
        have F4 := L4'.at
        clear L4' F3
        simp only [AllAt, CellsAt, updL, List.map, Nat.zero_add, Nat.reduceAdd, and_true, World.size_alloc, World.heap_drewN, heap_drew, size_set, Nat.add_eq_left, Nat.left_eq_add, Nat.add_right_cancel_iff, ne_up2, ne_dn2, ne_up3, ne_dn3, ne_up4, ne_dn4, Nat.reduceEqDiff, Nat.one_ne_zero, Nat.succ_ne_zero, Nat.zero_ne_one, reduceIte, List.set_cons_zero, List.set_cons_succ] at F4
        rw [HR.out]
        go_wp2_with fail
        refine Lv.call (refCheckFrac_any m d _ hm hd) L4.out ?_
        intro w5 L5'
        have L5 := hide L5'
        have F5 := L5'.at
        clear L5' F4
        simp only [AllAt, CellsAt, updL, List.map, Nat.zero_add, Nat.reduceAdd, and_true, World.size_alloc, World.heap_drewN, heap_drew, size_set, Nat.add_eq_left, Nat.left_eq_add, Nat.add_right_cancel_iff, ne_up2, ne_dn2, ne_up3, ne_dn3, ne_up4, ne_dn4, Nat.reduceEqDiff, Nat.one_ne_zero, Nat.succ_ne_zero, Nat.zero_ne_one, reduceIte, List.set_cons_zero, List.set_cons_succ] at F5
        rw [HE.out]
        go_wp2_with fail
        refine Lv.call (C2.out _) L5.out ?_
        intro w6 L6'
        have L6 := hide L6'
        have F6 := L6'.at
        clear L6' F5
        simp only [AllAt, CellsAt, updL, List.map, Nat.zero_add, Nat.reduceAdd, and_true, World.size_alloc, World.heap_drewN, heap_drew, size_set, Nat.add_eq_left, Nat.left_eq_add, Nat.add_right_cancel_iff, ne_up2, ne_dn2, ne_up3, ne_dn3, ne_up4, ne_dn4, Nat.reduceEqDiff, Nat.one_ne_zero, Nat.succ_ne_zero, Nat.zero_ne_one, reduceIte, List.set_cons_zero, List.set_cons_succ] at F6
        unfold rangeT
        go_wp2
        go_ret
        refine ⟨rfl, ?_⟩
        repeat (first | (with_reducible exact L6.out.below) | refine Below.setCell ?_ (by first | omega | (simp; done) | (simp; omega)) _ | refine Below.alloc ?_ (by first | omega | (simp; done) | (simp; omega)) _ | refine below_drewN ?_ _ | refine Below.drew ?_)
    · have HR := hide hR
      clear hR ha hb hab
      have HE := hide hE
      have C1 := hide (fun W => scaled_badf a b m d 2 W hm hd HR.out hE (by omega))
      clear hE
      have L0 := hide (Lv.start w)
      go_enter Try.func3, Try.ntmps3
      go_wp2_with fail
      refine Lv.call (awake_any _) ((L0.out.put _ _).put _ _) ?_
      intro w2 L2'
      have L2 := hide L2'
      have F2 := L2'.at
      clear L2'
      simp only [AllAt, CellsAt, updL, List.map, Nat.zero_add, Nat.reduceAdd, and_true, World.size_alloc, World.heap_drewN, heap_drew, size_set, Nat.add_eq_left, Nat.left_eq_add, Nat.add_right_cancel_iff, ne_up2, ne_dn2, ne_up3, ne_dn3, ne_up4, ne_dn4, Nat.reduceEqDiff, Nat.one_ne_zero, Nat.succ_ne_zero, Nat.zero_ne_one, reduceIte, List.set_cons_zero, List.set_cons_succ] at F2
      go_wp2_with fail
      refine Lv.call (C1.out _) L2.out ?_
      intro w3 L3'
      have L3 := hide L3'
      have F3 := L3'.at
      clear L3' F2
      simp only [AllAt, CellsAt, updL, List.map, Nat.zero_add, Nat.reduceAdd, and_true, World.size_alloc, World.heap_drewN, heap_drew, size_set, Nat.add_eq_left, Nat.left_eq_add, Nat.add_right_cancel_iff, ne_up2, ne_dn2, ne_up3, ne_dn3, ne_up4, ne_dn4, Nat.reduceEqDiff, Nat.one_ne_zero, Nat.succ_ne_zero, Nat.zero_ne_one, reduceIte, List.set_cons_zero, List.set_cons_succ] at F3
      unfold rangeT
      go_wp2_with fail
      refine Lv.call (refCheckRange_any a b _) (L3.out.put _ _) ?_
      intro w4 L4'
      have L4 := hide L4'
      have F4 := L4'.at
      clear L4' F3
      simp only [AllAt, CellsAt, updL, List.map, Nat.zero_add, Nat.reduceAdd, and_true, World.size_alloc, World.heap_drewN, heap_drew, size_set, Nat.add_eq_left, Nat.left_eq_add, Nat.add_right_cancel_iff, ne_up2, ne_dn2, ne_up3, ne_dn3, ne_up4, ne_dn4, Nat.reduceEqDiff, Nat.one_ne_zero, Nat.succ_ne_zero, Nat.zero_ne_one, reduceIte, List.set_cons_zero, List.set_cons_succ] at F4
      rw [HR.out]
      go_wp2_with fail
      refine Lv.call (refCheckFrac_any m d _ hm hd) L4.out ?_
      intro w5 L5'
      have L5 := hide L5'
      have F5 := L5'.at
      clear L5' F4
      simp only [AllAt, CellsAt, updL, List.map, Nat.zero_add, Nat.reduceAdd, and_true, World.size_alloc, World.heap_drewN, heap_drew, size_set, Nat.add_eq_left, Nat.left_eq_add, Nat.add_right_cancel_iff, ne_up2, ne_dn2, ne_up3, ne_dn3, ne_up4, ne_dn4, Nat.reduceEqDiff, Nat.one_ne_zero, Nat.succ_ne_zero, Nat.zero_ne_one, reduceIte, List.set_cons_zero, List.set_cons_succ] at F5
      rw [HE.out]
      go_wp2
      go_ret
      refine ⟨rfl, ?_⟩
      repeat (first | (with_reducible exact L5.out.below) | refine Below.setCell ?_ (by first | omega | (simp; done) | (simp; omega)) _ | refine Below.alloc ?_ (by first | omega | (simp; done) | (simp; omega)) _ | refine below_drewN ?_ _ | refine Below.drew ?_)
    · have HR := hide hR
      clear hR ha hb hab
      have HE := hide hE
      have C1 := hide (fun W => scaled_badf a b m d 3 W hm hd HR.out hE (by omega))
      clear hE
      have L0 := hide (Lv.start w)
      go_enter Try.func3, Try.ntmps3
      go_wp2_with fail
      refine Lv.call (awake_any _) ((L0.out.put _ _).put _ _) ?_
      intro w2 L2'
      have L2 := hide L2'
      have F2 := L2'.at
      clear L2'
      simp only [AllAt, CellsAt, updL, List.map, Nat.zero_add, Nat.reduceAdd, and_true, World.size_alloc, World.heap_drewN, heap_drew, size_set, Nat.add_eq_left, Nat.left_eq_add, Nat.add_right_cancel_iff, ne_up2, ne_dn2, ne_up3, ne_dn3, ne_up4, ne_dn4, Nat.reduceEqDiff, Nat.one_ne_zero, Nat.succ_ne_zero, Nat.zero_ne_one, reduceIte, List.set_cons_zero, List.set_cons_succ] at F2
      go_wp2_with fail
      refine Lv.call (C1.out _) L2.out ?_
      intro w3 L3'
      have L3 := hide L3'
      have F3 := L3'.at
      clear L3' F2
      simp only [AllAt, CellsAt, updL, List.map, Nat.zero_add, Nat.reduceAdd, and_true, World.size_alloc, World.heap_drewN, heap_drew, size_set, Nat.add_eq_left, Nat.left_eq_add, Nat.add_right_cancel_iff, ne_up2, ne_dn2, ne_up3, ne_dn3, ne_up4, ne_dn4, Nat.reduceEqDiff, Nat.one_ne_zero, Nat.succ_ne_zero, Nat.zero_ne_one, reduceIte, List.set_cons_zero, List.set_cons_succ] at F3
      unfold rangeT
      go_wp2_with fail
      refine Lv.call (refCheckRange_any a b _) (L3.out.put _ _) ?_
      intro w4 L4'
      have L4 := hide L4'
      have F4 := L4'.at
      clear L4' F3
      simp only [AllAt, CellsAt, updL, List.map, Nat.zero_add, Nat.reduceAdd, and_true, World.size_alloc, World.heap_drewN, heap_drew, size_set, Nat.add_eq_left, Nat.left_eq_add, Nat.add_right_cancel_iff, ne_up2, ne_dn2, ne_up3, ne_dn3, ne_up4, ne_dn4, Nat.reduceEqDiff, Nat.one_ne_zero, Nat.succ_ne_zero, Nat.zero_ne_one, reduceIte, List.set_cons_zero, List.set_cons_succ] at F4
      rw [HR.out]
      go_wp2_with fail
      refine Lv.call (refCheckFrac_any m d _ hm hd) L4.out ?_
      intro w5 L5'
      have L5 := hide L5'
      have F5 := L5'.at
      clear L5' F4
      simp only [AllAt, CellsAt, updL, List.map, Nat.zero_add, Nat.reduceAdd, and_true, World.size_alloc, World.heap_drewN, heap_drew, size_set, Nat.add_eq_left, Nat.left_eq_add, Nat.add_right_cancel_iff, ne_up2, ne_dn2, ne_up3, ne_dn3, ne_up4, ne_dn4, Nat.reduceEqDiff, Nat.one_ne_zero, Nat.succ_ne_zero, Nat.zero_ne_one, reduceIte, List.set_cons_zero, List.set_cons_succ] at F5
      rw [HE.out]
      go_wp2
      go_ret
      refine ⟨rfl, ?_⟩
      repeat (first | (with_reducible exact L5.out.below) | refine Below.setCell ?_ (by first | omega | (simp; done) | (simp; omega)) _ | refine Below.alloc ?_ (by first | omega | (simp; done) | (simp; omega)) _ | refine below_drewN ?_ _ | refine Below.drew ?_)
  · have HE := hide hE
    have C1 := hide (fun W => scaled_badr a b m d 2 W hE (by omega))
    clear hE
    have L0 := hide (Lv.start w)
    go_enter Try.func3, Try.ntmps3
    go_wp2_with fail
    refine Lv.call (awake_any _) ((L0.out.put _ _).put _ _) ?_
    intro w2 L2'
    have L2 := hide L2'
    have F2 := L2'.at
    clear L2'
    simp only [AllAt, CellsAt, updL, List.map, Nat.zero_add, Nat.reduceAdd, and_true, World.size_alloc, World.heap_drewN, heap_drew, size_set, Nat.add_eq_left, Nat.left_eq_add, Nat.add_right_cancel_iff, ne_up2, ne_dn2, ne_up3, ne_dn3, ne_up4, ne_dn4, Nat.reduceEqDiff, Nat.one_ne_zero, Nat.succ_ne_zero, Nat.zero_ne_one, reduceIte, List.set_cons_zero, List.set_cons_succ] at F2
    go_wp2_with fail
    refine Lv.call (C1.out _) L2.out ?_
    intro w3 L3'
    have L3 := hide L3'
    have F3 := L3'.at
    clear L3' F2
    simp only [AllAt, CellsAt, updL, List.map, Nat.zero_add, Nat.reduceAdd, and_true, World.size_alloc, World.heap_drewN, heap_drew, size_set, Nat.add_eq_left, Nat.left_eq_add, Nat.add_right_cancel_iff, ne_up2, ne_dn2, ne_up3, ne_dn3, ne_up4, ne_dn4, Nat.reduceEqDiff, Nat.one_ne_zero, Nat.succ_ne_zero, Nat.zero_ne_one, reduceIte, List.set_cons_zero, List.set_cons_succ] at F3
    unfold rangeT
    go_wp2_with fail
    refine Lv.call (refCheckRange_any a b _) (L3.out.put _ _) ?_
    intro w4 L4'
    have L4 := hide L4'
    have F4 := L4'.at
    clear L4' F3
    simp only [AllAt, CellsAt, updL, List.map, Nat.zero_add, Nat.reduceAdd, and_true, World.size_alloc, World.heap_drewN, heap_drew, size_set, Nat.add_eq_left, Nat.left_eq_add, Nat.add_right_cancel_iff, ne_up2, ne_dn2, ne_up3, ne_dn3, ne_up4, ne_dn4, Nat.reduceEqDiff, Nat.one_ne_zero, Nat.succ_ne_zero, Nat.zero_ne_one, reduceIte, List.set_cons_zero, List.set_cons_succ] at F4
    rw [HE.out]
    go_wp2
    go_ret
    refine ⟨rfl, ?_⟩
    repeat (first | (with_reducible exact L4.out.below) | refine Below.setCell ?_ (by first | omega | (simp; done) | (simp; omega)) _ | refine Below.alloc ?_ (by first | omega | (simp; done) | (simp; omega)) _ | refine below_drewN ?_ _ | refine Below.drew ?_)
  · have HE := hide hE
    have C1 := hide (fun W => scaled_badr a b m d 9 W hE (by omega))
    clear hE
    have L0 := hide (Lv.start w)
    go_enter Try.func3, Try.ntmps3
    go_wp2_with fail
    refine Lv.call (awake_any _) ((L0.out.put _ _).put _ _) ?_
    intro w2 L2'
    have L2 := hide L2'
    have F2 := L2'.at
    clear L2'
    simp only [AllAt, CellsAt, updL, List.map, Nat.zero_add, Nat.reduceAdd, and_true, World.size_alloc, World.heap_drewN, heap_drew, size_set, Nat.add_eq_left, Nat.left_eq_add, Nat.add_right_cancel_iff, ne_up2, ne_dn2, ne_up3, ne_dn3, ne_up4, ne_dn4, Nat.reduceEqDiff, Nat.one_ne_zero, Nat.succ_ne_zero, Nat.zero_ne_one, reduceIte, List.set_cons_zero, List.set_cons_succ] at F2
    go_wp2_with fail
    refine Lv.call (C1.out _) L2.out ?_
    intro w3 L3'
    have L3 := hide L3'
    have F3 := L3'.at
    clear L3' F2
    simp only [AllAt, CellsAt, updL, List.map, Nat.zero_add, Nat.reduceAdd, and_true, World.size_alloc, World.heap_drewN, heap_drew, size_set, Nat.add_eq_left, Nat.left_eq_add, Nat.add_right_cancel_iff, ne_up2, ne_dn2, ne_up3, ne_dn3, ne_up4, ne_dn4, Nat.reduceEqDiff, Nat.one_ne_zero, Nat.succ_ne_zero, Nat.zero_ne_one, reduceIte, List.set_cons_zero, List.set_cons_succ] at F3
    unfold rangeT
    go_wp2_with fail
    refine Lv.call (refCheckRange_any a b _) (L3.out.put _ _) ?_
    intro w4 L4'
    have L4 := hide L4'
    have F4 := L4'.at
    clear L4' F3
    simp only [AllAt, CellsAt, updL, List.map, Nat.zero_add, Nat.reduceAdd, and_true, World.size_alloc, World.heap_drewN, heap_drew, size_set, Nat.add_eq_left, Nat.left_eq_add, Nat.add_right_cancel_iff, ne_up2, ne_dn2, ne_up3, ne_dn3, ne_up4, ne_dn4, Nat.reduceEqDiff, Nat.one_ne_zero, Nat.succ_ne_zero, Nat.zero_ne_one, reduceIte, List.set_cons_zero, List.set_cons_succ] at F4
    rw [HE.out]
    go_wp2
    go_ret
    refine ⟨rfl, ?_⟩
    repeat (first | (with_reducible exact L4.out.below) | refine Below.setCell ?_ (by first | omega | (simp; done) | (simp; omega)) _ | refine Below.alloc ?_ (by first | omega | (simp; done) | (simp; omega)) _ | refine below_drewN ?_ _ | refine Below.drew ?_)
set_option maxRecDepth 100000 in
theorem numberScaled_lifted (os : Os) (started : os.Started) (H : Type) (enc : TypeId × Value → H) :
    ReturnsInHanded {} Try.checked os 3 .any (Rows.numberScaledSpec.pre6 enc Try.prog Try.f3 Rows.numberScaledRow.domain false) (Rows.numberScaledSpec.post enc Try.prog Try.f3 false true false false) := by
  refine returnsInHanded_of_change (C := Try.checked) (by kernel_rfl) started (by kernel_rfl) Try.func3
    (ChangeSpec.witness6 (enc := enc) (C := Try.checked) false ⟨#[], #[.agg #[.int .i64 0, .int .i64 0], .agg #[.int .i64 0, .int .i64 0]], []⟩ 8 (by kernel_rfl) (by kernel_rfl) (by kernel_rfl) (by kernel_rfl)) ?_
  intro W base args ds gs before hval0 hW hcnd _
  have hval : ∀ (j : Nat) t v, Try.f3.params[j]? = some t → args[j]? = some v → Value.okWide Try.prog W .any base t v := hval0
  have hW' := hW
  obtain ⟨p, q, hA0, hV, rfl, hfz, hnd⟩ := hW
  have hA : DataW.TrodAll enc Try.prog W 0 (fun _ => true) true Try.f3.params.toList args.toList ds p := hA0
  rw [Try.params3] at hA hval
  obtain ⟨v0, vs0, d0, ds0, p0, q0, hargs, rfl, rfl, h0, r0⟩ := trodAll_cons hA
  obtain ⟨v1, vs1, d1, ds1, p1, q1, rfl, rfl, rfl, h1, r1⟩ := trodAll_cons r0
  obtain ⟨rfl, rfl, rfl⟩ := trodAll_nil r1
  obtain rfl : args = #[v0, v1] := by cases args; simp_all
  obtain ⟨rfl, rfl⟩ := trodVars_none hV
  obtain ⟨c0_0, c0_1, y0_0, y0_1, m0, rfl, rfl, rfl, hy0_0, hy0_1⟩ := open_agg2 Try.underlying23 (by kernel_rfl) (by kernel_rfl) (hval 0 23 v0 rfl rfl) h0
  obtain ⟨a, e_a, rfl, w_a⟩ := DataW.trod_int Try.underlying3 hy0_0
  obtain ⟨b, e_b, rfl, w_b⟩ := DataW.trod_int Try.underlying3 hy0_1
  simp at e_a e_b
  subst e_a e_b
  obtain ⟨c1_0, c1_1, y1_0, y1_1, m1, rfl, rfl, rfl, hy1_0, hy1_1⟩ := open_agg2 Try.underlying25 (by kernel_rfl) (by kernel_rfl) (hval 1 25 v1 rfl rfl) h1
  obtain ⟨m, e_m, rfl, w_m⟩ := DataW.trod_int Try.underlying3 hy1_0
  obtain ⟨d, e_d, rfl, w_d⟩ := DataW.trod_int Try.underlying3 hy1_1
  simp at e_m e_d
  subst e_m e_d
  clear hA0 hval0
  simp only [List.append_nil] at hW'
  refine (numberScaled_walk a b m d W (wfI w_a) (wfI w_b) (wfI w_m) (wfI w_d)).mono fun e W' ⟨he, hb⟩ => ?_
  subst he
  exact ⟨_, rfl, law_post (pa := []) (pv := []) hW' (fun _ _ _ => (trodAll_cons_mk (shut_bool Try.underlying4 _) trodAll_mk0)) (fun sp _ => (trodAll_cons_mk (shut_agg2 (y0 := (.lit (.int .i64 a), [])) (y1 := (.lit (.int .i64 b), [])) Try.underlying23 (by kernel_rfl) (by kernel_rfl) ⟨1, by simp [DataW.trod, Try.underlying3, w_a]⟩ ⟨1, by simp [DataW.trod, Try.underlying3, w_b]⟩) (trodAll_cons_mk (shut_agg2 (y0 := (.lit (.int .i64 m), [])) (y1 := (.lit (.int .i64 d), [])) Try.underlying25 (by kernel_rfl) (by kernel_rfl) ⟨1, by simp [DataW.trod, Try.underlying3, w_m]⟩ ⟨1, by simp [DataW.trod, Try.underlying3, w_d]⟩) trodAll_mk0))) (fun _ _ => rfl) rfl hb⟩

theorem numberScaled_holds : Rows.NumberScaledSaid :=
  OpenClaim.holds_of_wide 3 Try.f3 rfl rfl rfl rfl rfl rfl rfl ⟨rfl, rfl, rfl, rfl, rfl⟩ rfl rfl rfl rfl rfl (by kernel_rfl) Try.func3 (by kernel_rfl)
    (of_decide_eq_true (by kernel_rfl)) (by unfold Func.isWrapper; first | (rw [if_pos (by decide +kernel)]; kernel_rfl) | (rw [if_neg (by decide +kernel)]; exact ⟨rfl, rfl⟩))
    (fun os started H enc _ => numberScaled_lifted os started H enc)
end Go.Proofs.Ytnilfacofikoaaa
