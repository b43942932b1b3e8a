/- PROVED HERE: Rows.NumberPitchesSaid: agraffelaw01.NumberPitches returns true for every input, and its arguments read behind the call as before. -/
import Derived.Test.YtfmonpjoadjimaaLift
import Derived.Test.YtfmonpjoadjimaaAwake
import Derived.Test.YtfmonpjoadjimaaPowers
namespace Go.Proofs.Ytfmonpjoadjimaa
open Go.ChangeShapes Go.WideShapes Go.ChangeAt Go.RowKit Go.Joins
set_option linter.unusedVariables false
set_option linter.unusedSimpArgs false

theorem jn_swap (x h y d : Int) : jn y d 1 x h = jn x h 1 y d := by unfold jn; rw [Int.one_mul, Int.one_mul, Int.add_comm]
theorem join_sw (a b c d e f g h : Int) (w : World) (hp : okP a b c d) (hq : okP e f g h) :
    Calls Try.prog 27 #[.agg #[.int .i64 e, .int .i64 f, .int .i64 g, .int .i64 h], .agg #[.int .i64 a, .int .i64 b, .int .i64 c, .int .i64 d]] w
      fun x w' => x = .returned (pitchR (p2 (jn a h 1 e d) (jn b h 1 f d) (jn c h 1 g d) (d * h)) (p3 (jn a h 1 e d) (jn b h 1 f d) (jn c h 1 g d) (d * h)) (p5 (jn a h 1 e d) (jn b h 1 f d) (jn c h 1 g d) (d * h)) (pd (jn a h 1 e d) (jn b h 1 f d) (jn c h 1 g d) (d * h)) (pe (jn a h 1 e d) (jn b h 1 f d) (jn c h 1 g d) (d * h))) ∧ Below w.heap.size w w' := by
  have h0 := join_ok e f g h a b c d w hq hp
  rw [jn_swap a h e d, jn_swap b h f d, jn_swap c h g d, Int.mul_comm h d] at h0
  exact h0
/-- The normal form's contract with a valid pitch's own parts. -/
theorem normal_ok (a b c d : Int) (w : World) (h : okP a b c d) :
    Calls Try.prog 26 #[.agg #[.int .i64 a, .int .i64 b, .int .i64 c, .int .i64 d]] w fun e w' => e = .returned (pitchR (a.tdiv (gcdP a b c d)) (b.tdiv (gcdP a b c d)) (c.tdiv (gcdP a b c d)) (d / (gcdP a b c d)) 0) ∧ Below w.heap.size w w' := by
  have h0 := normal_good a b c d w h
  have hf := fit_of_ok h
  unfold p2 p3 p5 pd pe at h0
  rw [if_pos hf, if_pos hf, if_pos hf, if_pos hf, if_pos hf] at h0
  exact h0

set_option maxHeartbeats 4000000 in
set_option maxRecDepth 100000 in
theorem numberPitches_walk (a b c d e f g h : Int) (w : World) (ha : -9223372036854775808 ≤ a ∧ a ≤ 9223372036854775807) (hb : -9223372036854775808 ≤ b ∧ b ≤ 9223372036854775807) (hc : -9223372036854775808 ≤ c ∧ c ≤ 9223372036854775807) (hd : -9223372036854775808 ≤ d ∧ d ≤ 9223372036854775807) (he : -9223372036854775808 ≤ e ∧ e ≤ 9223372036854775807) (hf : -9223372036854775808 ≤ f ∧ f ≤ 9223372036854775807) (hg : -9223372036854775808 ≤ g ∧ g ≤ 9223372036854775807) (hh : -9223372036854775808 ≤ h ∧ h ≤ 9223372036854775807) :
    Calls Try.prog 6 #[.agg #[.int .i64 a, .int .i64 b, .int .i64 c, .int .i64 d], .agg #[.int .i64 e, .int .i64 f, .int .i64 g, .int .i64 h]] w fun x w' => x = .returned (.bool true) ∧ Below w.heap.size w w' := by
  clear ha hb hc hd he hf hg hh
  have L0 := hide (Lv.start w)
  go_enter Try.func6, Try.ntmps6
  go_wp2_with fail
  refine Lv.call (awake_any _) ((L0.out.put _ _).put _ _) ?_
  intro w2 L2'
  have L2 := hide L2'
  have F2 := L2'.at
  clear L2'
  simp only [AllAt, CellsAt, updL, List.map, Nat.zero_add, Nat.reduceAdd, and_true, World.size_alloc, World.heap_drewN, heap_drew, size_set, Nat.add_eq_left, Nat.left_eq_add, Nat.add_right_cancel_iff, Nat.reduceEqDiff, Nat.one_ne_zero, Nat.succ_ne_zero, Nat.zero_ne_one, reduceIte, List.set_cons_zero, List.set_cons_succ] at F2
  rcases pitchErr_cases a b c d with ⟨hE1, hp⟩ | ⟨hE1, hp⟩
  · have HE1 := hide hE1
    have HP := hide hp
    clear hE1 hp
    go_wp2_with fail
    refine Lv.call (normal_ok a b c d _ HP.out) L2.out ?_
    intro w3 L3'
    have L3 := hide L3'
    have F3 := L3'.at
    clear L3' F2
    simp only [AllAt, CellsAt, updL, List.map, Nat.zero_add, Nat.reduceAdd, and_true, World.size_alloc, World.heap_drewN, heap_drew, size_set, Nat.add_eq_left, Nat.left_eq_add, Nat.add_right_cancel_iff, Nat.reduceEqDiff, Nat.one_ne_zero, Nat.succ_ne_zero, Nat.zero_ne_one, reduceIte, List.set_cons_zero, List.set_cons_succ] at F3
    unfold pitchR
    obtain ⟨x, hx⟩ : ∃ x, x = a.tdiv (gcdP a b c d) := ⟨_, rfl⟩
    obtain ⟨y, hy⟩ : ∃ x, x = b.tdiv (gcdP a b c d) := ⟨_, rfl⟩
    obtain ⟨z, hz⟩ : ∃ x, x = c.tdiv (gcdP a b c d) := ⟨_, rfl⟩
    obtain ⟨u, hu⟩ : ∃ x, x = d / (gcdP a b c d : Int) := ⟨_, rfl⟩
    rw [← hx, ← hy, ← hz, ← hu]
    have hb1 : (-1000000000000 ≤ a ∧ a ≤ 1000000000000) ∧ (-1000000000000 ≤ b ∧ b ≤ 1000000000000) ∧ (-1000000000000 ≤ c ∧ c ≤ 1000000000000) ∧ (1 ≤ d ∧ d ≤ 1000000000000) := by
      obtain ⟨h1, h2, h3, h4⟩ := HP.out
      unfold okE at h2 h3 h4
      omega
    have HR : Hid (∀ W : World, Calls Try.prog 30 #[.agg #[.int .i64 a, .int .i64 b, .int .i64 c, .int .i64 d]] W fun r w' => r = .returned (.agg #[.int .i64 x, .int .i64 y, .int .i64 z, .int .i64 u]) ∧ Below W.heap.size W w') := hide (fun W => by
      rw [hx, hy, hz, hu]
      exact refNormal_any a b c d W hb1.1 hb1.2.1 hb1.2.2.1 hb1.2.2.2)
    clear hx hy hz hu hb1
    by_cases hq : okP e f g h
    · obtain ⟨j2, hj2⟩ : ∃ v, v = p2 (jn a h 1 e d) (jn b h 1 f d) (jn c h 1 g d) (d * h) := ⟨_, rfl⟩
      obtain ⟨j3, hj3⟩ : ∃ v, v = p3 (jn a h 1 e d) (jn b h 1 f d) (jn c h 1 g d) (d * h) := ⟨_, rfl⟩
      obtain ⟨j5, hj5⟩ : ∃ v, v = p5 (jn a h 1 e d) (jn b h 1 f d) (jn c h 1 g d) (d * h) := ⟨_, rfl⟩
      obtain ⟨jd, hjd⟩ : ∃ v, v = pd (jn a h 1 e d) (jn b h 1 f d) (jn c h 1 g d) (d * h) := ⟨_, rfl⟩
      obtain ⟨je, hje⟩ : ∃ v, v = pe (jn a h 1 e d) (jn b h 1 f d) (jn c h 1 g d) (d * h) := ⟨_, rfl⟩
      have J1 := join_ok a b c d e f g h
      have J2 := join_sw a b c d e f g h
      have J3 := refJoin_any a b c d e f g h
      rw [← hj2, ← hj3, ← hj5, ← hjd, ← hje] at J1 J2 J3
      have C1 := hide (fun W => J1 W HP.out hq)
      have C2 := hide (fun W => J2 W HP.out hq)
      have C3 := hide (fun W => J3 W HP.out hq)
      have HQ := hide hq
      clear J1 J2 J3 hj2 hj3 hj5 hjd hje
      have HE2 : Hid (pitchesErr a b c d e f g h = 0) := if_pos ⟨HP.out, hq⟩
      clear hq
      go_wp2_with fail
      refine Lv.call (C1.out _) (L3.out.put _ _) ?_
      intro w4 L4'
      have L4 := hide L4'
      have F4 := L4'.at
      clear L4' F3 L2
      simp only [AllAt, CellsAt, updL, List.map, Nat.zero_add, Nat.reduceAdd, and_true, World.size_alloc, World.heap_drewN, heap_drew, size_set, Nat.add_eq_left, Nat.left_eq_add, Nat.add_right_cancel_iff, Nat.reduceEqDiff, Nat.one_ne_zero, Nat.succ_ne_zero, Nat.zero_ne_one, reduceIte, List.set_cons_zero, List.set_cons_succ] at F4
      unfold pitchR
      go_wp2_with fail
      refine Lv.call (lawPitches1_any _ _ a b c d _ (Blk.new _ _ _ _ (by simp))) ((L4.out.put _ _).put _ _) ?_
      intro w5 L5'
      have L5 := hide L5'
      have F5 := L5'.at
      clear L5' F4 L3
      simp only [AllAt, CellsAt, updL, List.map, Nat.zero_add, Nat.reduceAdd, and_true, World.size_alloc, World.heap_drewN, heap_drew, size_set, Nat.add_eq_left, Nat.left_eq_add, Nat.add_right_cancel_iff, Nat.reduceEqDiff, Nat.one_ne_zero, Nat.succ_ne_zero, Nat.zero_ne_one, reduceIte, List.set_cons_zero, List.set_cons_succ] at F5
      rw [HE1.out]
      go_wp2_with fail
      refine Lv.call (checkPitch_any a b c d _) L5.out ?_
      intro w6 L6'
      have L6 := hide L6'
      have F6 := L6'.at
      clear L6' F5 L4
      simp only [AllAt, CellsAt, updL, List.map, Nat.zero_add, Nat.reduceAdd, and_true, World.size_alloc, World.heap_drewN, heap_drew, size_set, Nat.add_eq_left, Nat.left_eq_add, Nat.add_right_cancel_iff, Nat.reduceEqDiff, Nat.one_ne_zero, Nat.succ_ne_zero, Nat.zero_ne_one, reduceIte, List.set_cons_zero, List.set_cons_succ] at F6
      rw [HE1.out]
      go_wp2
      go_region_held3 (fun w' => w'.cell? ⟨w.heap.size, 0, none⟩ = some (.int .i64 a) ∧ w'.cell? ⟨w.heap.size, 1, none⟩ = some (.int .i64 b) ∧ w'.cell? ⟨w.heap.size, 2, none⟩ = some (.int .i64 c) ∧ w'.cell? ⟨w.heap.size, 3, none⟩ = some (.int .i64 d) ∧ w'.cell? ⟨w3.heap.size, 0, none⟩ = some (.int .i64 x) ∧ w'.cell? ⟨w3.heap.size, 1, none⟩ = some (.int .i64 y) ∧ w'.cell? ⟨w3.heap.size, 2, none⟩ = some (.int .i64 z) ∧ w'.cell? ⟨w3.heap.size, 3, none⟩ = some (.int .i64 u))
        (go_keep)
        (first | (go_at_call 30; refine Lv.call (HR.out _) (L6.out.drew) ?_; intro w7 L7'; have L7 := hide L7'; have F7 := L7'.at; clear L7'; simp only [AllAt, CellsAt, updL, List.map, Nat.zero_add, Nat.reduceAdd, and_true, World.size_alloc, World.heap_drewN, heap_drew, size_set, Nat.add_eq_left, Nat.left_eq_add, Nat.add_right_cancel_iff, Nat.reduceEqDiff, Nat.one_ne_zero, Nat.succ_ne_zero, Nat.zero_ne_one, reduceIte, List.set_cons_zero, List.set_cons_succ] at F7))
      go_wp2_with fail
      refine Lv.call (lawPitches2_any _ _ a b c d e f g h _ (Blk.new _ _ _ _ (by simp))) (L7.out.put _ _) ?_
      intro w8 L8'
      have L8 := hide L8'
      have F8 := L8'.at
      clear L8' F7
      simp only [AllAt, CellsAt, updL, List.map, Nat.zero_add, Nat.reduceAdd, and_true, World.size_alloc, World.heap_drewN, heap_drew, size_set, Nat.add_eq_left, Nat.left_eq_add, Nat.add_right_cancel_iff, Nat.reduceEqDiff, Nat.one_ne_zero, Nat.succ_ne_zero, Nat.zero_ne_one, reduceIte, List.set_cons_zero, List.set_cons_succ] at F8
      rw [HE2.out]
      go_wp2_with fail
      refine Lv.call (C3.out _) L8.out ?_
      intro w9 L9'
      have L9 := hide L9'
      have F9 := L9'.at
      clear L9' F8 L7
      simp only [AllAt, CellsAt, updL, List.map, Nat.zero_add, Nat.reduceAdd, and_true, World.size_alloc, World.heap_drewN, heap_drew, size_set, Nat.add_eq_left, Nat.left_eq_add, Nat.add_right_cancel_iff, Nat.reduceEqDiff, Nat.one_ne_zero, Nat.succ_ne_zero, Nat.zero_ne_one, reduceIte, List.set_cons_zero, List.set_cons_succ] at F9
      unfold pitchR
      go_wp2_with fail
      refine Lv.call (C2.out _) (L9.out.put _ _) ?_
      intro w10 L10'
      have L10 := hide L10'
      have F10 := L10'.at
      clear L10' F9 L8
      simp only [AllAt, CellsAt, updL, List.map, Nat.zero_add, Nat.reduceAdd, and_true, World.size_alloc, World.heap_drewN, heap_drew, size_set, Nat.add_eq_left, Nat.left_eq_add, Nat.add_right_cancel_iff, Nat.reduceEqDiff, Nat.one_ne_zero, Nat.succ_ne_zero, Nat.zero_ne_one, reduceIte, List.set_cons_zero, List.set_cons_succ] at F10
      unfold pitchR
      go_wp2
      go_ret
      refine ⟨rfl, ?_⟩
      repeat (first | exact L10.out.below | refine Below.setCell ?_ (by first | omega | (simp; done) | (simp; omega)) _ | refine Below.alloc ?_ (by first | omega | (simp; done) | (simp; omega)) _ | refine below_drewN ?_ _ | refine Below.drew ?_)
    · have HE2 : Hid (pitchesErr a b c d e f g h = 2) := if_neg fun x => hq x.2
      have HB : Hid (¬ (okP a b c d ∧ okP e f g h)) := fun x => hq x.2
      clear hq
      go_wp2_with fail
      refine Lv.call (join_bad a b c d e f g h _ HB.out) (L3.out.put _ _) ?_
      intro w4 L4'
      have L4 := hide L4'
      have F4 := L4'.at
      clear L4' F3 L2
      simp only [AllAt, CellsAt, updL, List.map, Nat.zero_add, Nat.reduceAdd, and_true, World.size_alloc, World.heap_drewN, heap_drew, size_set, Nat.add_eq_left, Nat.left_eq_add, Nat.add_right_cancel_iff, Nat.reduceEqDiff, Nat.one_ne_zero, Nat.succ_ne_zero, Nat.zero_ne_one, reduceIte, List.set_cons_zero, List.set_cons_succ] at F4
      unfold pitchR
      go_wp2_with fail
      refine Lv.call (lawPitches1_any _ _ a b c d _ (Blk.new _ _ _ _ (by simp))) ((L4.out.put _ _).put _ _) ?_
      intro w5 L5'
      have L5 := hide L5'
      have F5 := L5'.at
      clear L5' F4 L3
      simp only [AllAt, CellsAt, updL, List.map, Nat.zero_add, Nat.reduceAdd, and_true, World.size_alloc, World.heap_drewN, heap_drew, size_set, Nat.add_eq_left, Nat.left_eq_add, Nat.add_right_cancel_iff, Nat.reduceEqDiff, Nat.one_ne_zero, Nat.succ_ne_zero, Nat.zero_ne_one, reduceIte, List.set_cons_zero, List.set_cons_succ] at F5
      rw [HE1.out]
      go_wp2_with fail
      refine Lv.call (checkPitch_any a b c d _) L5.out ?_
      intro w6 L6'
      have L6 := hide L6'
      have F6 := L6'.at
      clear L6' F5 L4
      simp only [AllAt, CellsAt, updL, List.map, Nat.zero_add, Nat.reduceAdd, and_true, World.size_alloc, World.heap_drewN, heap_drew, size_set, Nat.add_eq_left, Nat.left_eq_add, Nat.add_right_cancel_iff, Nat.reduceEqDiff, Nat.one_ne_zero, Nat.succ_ne_zero, Nat.zero_ne_one, reduceIte, List.set_cons_zero, List.set_cons_succ] at F6
      rw [HE1.out]
      go_wp2
      go_region_held3 (fun w' => w'.cell? ⟨w.heap.size, 0, none⟩ = some (.int .i64 a) ∧ w'.cell? ⟨w.heap.size, 1, none⟩ = some (.int .i64 b) ∧ w'.cell? ⟨w.heap.size, 2, none⟩ = some (.int .i64 c) ∧ w'.cell? ⟨w.heap.size, 3, none⟩ = some (.int .i64 d) ∧ w'.cell? ⟨w3.heap.size, 0, none⟩ = some (.int .i64 x) ∧ w'.cell? ⟨w3.heap.size, 1, none⟩ = some (.int .i64 y) ∧ w'.cell? ⟨w3.heap.size, 2, none⟩ = some (.int .i64 z) ∧ w'.cell? ⟨w3.heap.size, 3, none⟩ = some (.int .i64 u))
        (go_keep)
        (first | (go_at_call 30; refine Lv.call (HR.out _) (L6.out.drew) ?_; intro w7 L7'; have L7 := hide L7'; have F7 := L7'.at; clear L7'; simp only [AllAt, CellsAt, updL, List.map, Nat.zero_add, Nat.reduceAdd, and_true, World.size_alloc, World.heap_drewN, heap_drew, size_set, Nat.add_eq_left, Nat.left_eq_add, Nat.add_right_cancel_iff, Nat.reduceEqDiff, Nat.one_ne_zero, Nat.succ_ne_zero, Nat.zero_ne_one, reduceIte, List.set_cons_zero, List.set_cons_succ] at F7))
      go_wp2_with fail
      refine Lv.call (lawPitches2_any _ _ a b c d e f g h _ (Blk.new _ _ _ _ (by simp))) (L7.out.put _ _) ?_
      intro w8 L8'
      have L8 := hide L8'
      have F8 := L8'.at
      clear L8' F7
      simp only [AllAt, CellsAt, updL, List.map, Nat.zero_add, Nat.reduceAdd, and_true, World.size_alloc, World.heap_drewN, heap_drew, size_set, Nat.add_eq_left, Nat.left_eq_add, Nat.add_right_cancel_iff, Nat.reduceEqDiff, Nat.one_ne_zero, Nat.succ_ne_zero, Nat.zero_ne_one, reduceIte, List.set_cons_zero, List.set_cons_succ] at F8
      rw [HE2.out]
      go_wp2
      go_ret
      refine ⟨rfl, ?_⟩
      repeat (first | exact L8.out.below | refine Below.setCell ?_ (by first | omega | (simp; done) | (simp; omega)) _ | refine Below.alloc ?_ (by first | omega | (simp; done) | (simp; omega)) _ | refine below_drewN ?_ _ | refine Below.drew ?_)
  · have HE2 : Hid (pitchesErr a b c d e f g h = 2) := if_neg fun x => hp x.1
    have HB : Hid (¬ (okP a b c d ∧ okP e f g h)) := fun x => hp x.1
    have HE1 := hide hE1
    have HP := hide hp
    clear hE1 hp
    go_wp2_with fail
    refine Lv.call (normal_bad a b c d _ HP.out) L2.out ?_
    intro w3 L3'
    have L3 := hide L3'
    have F3 := L3'.at
    clear L3' F2
    simp only [AllAt, CellsAt, updL, List.map, Nat.zero_add, Nat.reduceAdd, and_true, World.size_alloc, World.heap_drewN, heap_drew, size_set, Nat.add_eq_left, Nat.left_eq_add, Nat.add_right_cancel_iff, Nat.reduceEqDiff, Nat.one_ne_zero, Nat.succ_ne_zero, Nat.zero_ne_one, reduceIte, List.set_cons_zero, List.set_cons_succ] at F3
    unfold pitchV
    go_wp2_with fail
    refine Lv.call (join_bad a b c d e f g h _ HB.out) (L3.out.put _ _) ?_
    intro w4 L4'
    have L4 := hide L4'
    have F4 := L4'.at
    clear L4' F3 L2
    simp only [AllAt, CellsAt, updL, List.map, Nat.zero_add, Nat.reduceAdd, and_true, World.size_alloc, World.heap_drewN, heap_drew, size_set, Nat.add_eq_left, Nat.left_eq_add, Nat.add_right_cancel_iff, Nat.reduceEqDiff, Nat.one_ne_zero, Nat.succ_ne_zero, Nat.zero_ne_one, reduceIte, List.set_cons_zero, List.set_cons_succ] at F4
    unfold pitchR
    go_wp2_with fail
    refine Lv.call (lawPitches1_any _ _ a b c d _ (Blk.new _ _ _ _ (by simp))) ((L4.out.put _ _).put _ _) ?_
    intro w5 L5'
    have L5 := hide L5'
    have F5 := L5'.at
    clear L5' F4 L3
    simp only [AllAt, CellsAt, updL, List.map, Nat.zero_add, Nat.reduceAdd, and_true, World.size_alloc, World.heap_drewN, heap_drew, size_set, Nat.add_eq_left, Nat.left_eq_add, Nat.add_right_cancel_iff, Nat.reduceEqDiff, Nat.one_ne_zero, Nat.succ_ne_zero, Nat.zero_ne_one, reduceIte, List.set_cons_zero, List.set_cons_succ] at F5
    rw [HE1.out]
    go_wp2_with fail
    refine Lv.call (checkPitch_any a b c d _) L5.out ?_
    intro w6 L6'
    have L6 := hide L6'
    have F6 := L6'.at
    clear L6' F5 L4
    simp only [AllAt, CellsAt, updL, List.map, Nat.zero_add, Nat.reduceAdd, and_true, World.size_alloc, World.heap_drewN, heap_drew, size_set, Nat.add_eq_left, Nat.left_eq_add, Nat.add_right_cancel_iff, Nat.reduceEqDiff, Nat.one_ne_zero, Nat.succ_ne_zero, Nat.zero_ne_one, reduceIte, List.set_cons_zero, List.set_cons_succ] at F6
    rw [HE1.out]
    go_wp2
    go_quiet (fail)
    go_wp2_with fail
    refine Lv.call (lawPitches2_any _ _ a b c d e f g h _ (Blk.new _ _ _ _ (by simp))) ((L6.out.drewN _).put _ _) ?_
    intro w8 L8'
    have L8 := hide L8'
    have F8 := L8'.at
    clear L8' F6
    simp only [AllAt, CellsAt, updL, List.map, Nat.zero_add, Nat.reduceAdd, and_true, World.size_alloc, World.heap_drewN, heap_drew, size_set, Nat.add_eq_left, Nat.left_eq_add, Nat.add_right_cancel_iff, Nat.reduceEqDiff, Nat.one_ne_zero, Nat.succ_ne_zero, Nat.zero_ne_one, reduceIte, List.set_cons_zero, List.set_cons_succ] at F8
    rw [HE2.out]
    go_wp2
    go_ret
    refine ⟨rfl, ?_⟩
    repeat (first | exact L8.out.below | refine Below.setCell ?_ (by first | omega | (simp; done) | (simp; omega)) _ | refine Below.alloc ?_ (by first | omega | (simp; done) | (simp; omega)) _ | refine below_drewN ?_ _ | refine Below.drew ?_)
set_option maxRecDepth 100000 in
theorem numberPitches_lifted (os : Os) (started : os.Started) (H : Type) (enc : TypeId × Value → H) :
    ReturnsInHanded {} Try.checked os 6 .any (Rows.numberPitchesSpec.pre6 enc Try.prog Try.f6 Rows.numberPitchesRow.domain false) (Rows.numberPitchesSpec.post enc Try.prog Try.f6 false true false false) := by
  refine returnsInHanded_of_change (C := Try.checked) (by kernel_rfl) started (by kernel_rfl) Try.func6
    (ChangeSpec.witness6 (enc := enc) (C := Try.checked) false ⟨#[], #[.agg #[.int .i64 0, .int .i64 0, .int .i64 0, .int .i64 0], .agg #[.int .i64 0, .int .i64 0, .int .i64 0, .int .i64 0]], []⟩ 8 (by kernel_rfl) (by kernel_rfl) (by kernel_rfl) (by kernel_rfl)) ?_
  intro W base args ds gs before hval0 hW hcnd _
  have hval : ∀ (j : Nat) t v, Try.f6.params[j]? = some t → args[j]? = some v → Value.okWide Try.prog W .any base t v := hval0
  have hW' := hW
  obtain ⟨p, q, hA0, hV, rfl, hfz, hnd⟩ := hW
  have hA : DataW.TrodAll enc Try.prog W 0 (fun _ => true) true Try.f6.params.toList args.toList ds p := hA0
  rw [Try.params6] at hA hval
  obtain ⟨v0, vs0, d0, ds0, p0, q0, hargs, rfl, rfl, h0, r0⟩ := trodAll_cons hA
  obtain ⟨v1, vs1, d1, ds1, p1, q1, rfl, rfl, rfl, h1, r1⟩ := trodAll_cons r0
  obtain ⟨rfl, rfl, rfl⟩ := trodAll_nil r1
  obtain rfl : args = #[v0, v1] := by cases args; simp_all
  obtain ⟨rfl, rfl⟩ := trodVars_none hV
  obtain ⟨c0_0, c0_1, c0_2, c0_3, y0_0, y0_1, y0_2, y0_3, m0, rfl, rfl, rfl, hy0_0, hy0_1, hy0_2, hy0_3⟩ := open_agg4 Try.underlying47 (by kernel_rfl) (by kernel_rfl) (hval 0 47 v0 rfl rfl) h0
  obtain ⟨a, e_a, rfl, w_a⟩ := DataW.trod_int Try.underlying3 hy0_0
  obtain ⟨b, e_b, rfl, w_b⟩ := DataW.trod_int Try.underlying3 hy0_1
  obtain ⟨c, e_c, rfl, w_c⟩ := DataW.trod_int Try.underlying3 hy0_2
  obtain ⟨d, e_d, rfl, w_d⟩ := DataW.trod_int Try.underlying3 hy0_3
  simp at e_a e_b e_c e_d
  subst e_a e_b e_c e_d
  obtain ⟨c1_0, c1_1, c1_2, c1_3, y1_0, y1_1, y1_2, y1_3, m1, rfl, rfl, rfl, hy1_0, hy1_1, hy1_2, hy1_3⟩ := open_agg4 Try.underlying47 (by kernel_rfl) (by kernel_rfl) (hval 1 47 v1 rfl rfl) h1
  obtain ⟨e, e_e, rfl, w_e⟩ := DataW.trod_int Try.underlying3 hy1_0
  obtain ⟨f, e_f, rfl, w_f⟩ := DataW.trod_int Try.underlying3 hy1_1
  obtain ⟨g, e_g, rfl, w_g⟩ := DataW.trod_int Try.underlying3 hy1_2
  obtain ⟨h, e_h, rfl, w_h⟩ := DataW.trod_int Try.underlying3 hy1_3
  simp at e_e e_f e_g e_h
  subst e_e e_f e_g e_h
  clear hA0 hval0
  simp only [List.append_nil] at hW'
  refine (numberPitches_walk a b c d e f g h W (wfI w_a) (wfI w_b) (wfI w_c) (wfI w_d) (wfI w_e) (wfI w_f) (wfI w_g) (wfI w_h)).mono fun e W' ⟨he, hb⟩ => ?_
  subst he
  exact ⟨_, rfl, law_post (pa := []) (pv := []) hW' (fun _ _ _ => (trodAll_cons_mk (shut_bool Try.underlying4 _) trodAll_mk0)) (fun sp _ => (trodAll_cons_mk (shut_agg4 (y0 := (.lit (.int .i64 a), [])) (y1 := (.lit (.int .i64 b), [])) (y2 := (.lit (.int .i64 c), [])) (y3 := (.lit (.int .i64 d), [])) Try.underlying47 (by kernel_rfl) (by kernel_rfl) ⟨1, by simp [DataW.trod, Try.underlying3, w_a]⟩ ⟨1, by simp [DataW.trod, Try.underlying3, w_b]⟩ ⟨1, by simp [DataW.trod, Try.underlying3, w_c]⟩ ⟨1, by simp [DataW.trod, Try.underlying3, w_d]⟩) (trodAll_cons_mk (shut_agg4 (y0 := (.lit (.int .i64 e), [])) (y1 := (.lit (.int .i64 f), [])) (y2 := (.lit (.int .i64 g), [])) (y3 := (.lit (.int .i64 h), [])) Try.underlying47 (by kernel_rfl) (by kernel_rfl) ⟨1, by simp [DataW.trod, Try.underlying3, w_e]⟩ ⟨1, by simp [DataW.trod, Try.underlying3, w_f]⟩ ⟨1, by simp [DataW.trod, Try.underlying3, w_g]⟩ ⟨1, by simp [DataW.trod, Try.underlying3, w_h]⟩) trodAll_mk0))) (fun _ _ => rfl) rfl hb⟩

theorem numberPitches_holds : Rows.NumberPitchesSaid :=
  OpenClaim.holds_of_wide 6 Try.f6 rfl rfl rfl rfl rfl rfl rfl ⟨rfl, rfl, rfl, rfl, rfl⟩ rfl rfl rfl rfl rfl (by kernel_rfl) Try.func6 (by kernel_rfl)
    (of_decide_eq_true (by kernel_rfl)) (by unfold Func.isWrapper; first | (rw [if_pos (by decide +kernel)]; kernel_rfl) | (rw [if_neg (by decide +kernel)]; exact ⟨rfl, rfl⟩))
    (fun os started H enc _ => numberPitches_lifted os started H enc)
end Go.Proofs.Ytfmonpjoadjimaa
