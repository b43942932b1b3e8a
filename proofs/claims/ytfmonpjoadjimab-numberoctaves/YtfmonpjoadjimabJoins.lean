/- Contracts of number.checkPitches, joined, Join. Bounds are premises of each theorem. -/
import Derived.Test.YtfmonpjoadjimabRefPitch
namespace Go.Proofs.Ytfmonpjoadjimab
open Go.RowKit
set_option linter.unusedVariables false
set_option linter.unusedSimpArgs false

set_option maxHeartbeats 1000000 in
set_option maxRecDepth 100000 in
theorem checkPitches_any (bk cap : Nat) (a b c d e f g h : Int) (w : World) (hB : Blk w bk 23 #[.int .i64 a, .int .i64 b, .int .i64 c, .int .i64 d, .int .i64 e, .int .i64 f, .int .i64 g, .int .i64 h]) :
    Calls Try.prog 57 #[.slice (some ⟨bk, 0, none⟩) 2 cap] w fun x w' => x = .returned (.int .i64 (pitchesErr a b c d e f g h)) ∧ Below w.heap.size w w' := by
  have L0 : Hid (Lv w w [(bk, 23, [.int .i64 a, .int .i64 b, .int .i64 c, .int .i64 d, .int .i64 e, .int .i64 f, .int .i64 g, .int .i64 h])]) := ⟨Below.refl _ _, fun x hx => by simp at hx; subst hx; exact hB⟩
  clear hB
  go_enter Try.func57, Try.ntmps57
  go_wp2
  go_loopw [8] (fun i wr => Hid (Lv w wr [(bk, 23, [.int .i64 a, .int .i64 b, .int .i64 c, .int .i64 d, .int .i64 e, .int .i64 f, .int .i64 g, .int .i64 h])]) ∧ (i = .int .i64 0 ∨ (i = .int .i64 1 ∧ Hid (okP a b c d)) ∨ (i = .int .i64 2 ∧ Hid (okP a b c d) ∧ Hid (okP e f g h)))) (fun i _ => 2 - (intOf i).toNat)
  case atStart => exact ⟨L0, Or.inl rfl⟩
  case round =>
    obtain ⟨L1, rfl | ⟨rfl, HA⟩ | ⟨rfl, HA, HC⟩⟩ := hrel
    · have F1 := L1.out.at
      simp only [AllAt, CellsAt, updL, List.map, Nat.zero_add, Nat.reduceAdd, and_true, World.size_alloc, World.heap_drewN, heap_drew, size_set, Nat.add_eq_left, Nat.left_eq_add, Nat.add_right_cancel_iff, Nat.reduceEqDiff, Nat.one_ne_zero, Nat.succ_ne_zero, Nat.zero_ne_one, reduceIte, List.set_cons_zero, List.set_cons_succ] at F1
      go_wp2_with fail
      refine Lv.call (checkPitch_any a b c d _) (L1.out.put _ _) ?_
      intro w2 L2'
      have L2 := hide L2'
      have F2 := L2'.at
      clear L2' F1
      simp only [AllAt, CellsAt, updL, List.map, Nat.zero_add, Nat.reduceAdd, and_true, World.size_alloc, World.heap_drewN, heap_drew, size_set, Nat.add_eq_left, Nat.left_eq_add, Nat.add_right_cancel_iff, Nat.reduceEqDiff, Nat.one_ne_zero, Nat.succ_ne_zero, Nat.zero_ne_one, reduceIte, List.set_cons_zero, List.set_cons_succ] at F2
      rcases pitchErr_cases a b c d with ⟨hE, hok⟩ | ⟨hE, hno⟩
      · rw [hE]
        have H := hide hok
        clear hE hok
        go_wp2
        go_roundw
        case rel => exact ⟨L2.out.of (by simp), Or.inr (Or.inl ⟨rfl, H⟩)⟩
        case measure => simp [intOf]
      · have HE : Hid (pitchesErr a b c d e f g h = 2) := if_neg fun hh => hno hh.1
        rw [hE]
        clear hE hno
        go_wp2
        go_ret
        exact ⟨ret_int HE.out.symm, L2.out.below⟩
    · have F1 := L1.out.at
      simp only [AllAt, CellsAt, updL, List.map, Nat.zero_add, Nat.reduceAdd, and_true, World.size_alloc, World.heap_drewN, heap_drew, size_set, Nat.add_eq_left, Nat.left_eq_add, Nat.add_right_cancel_iff, Nat.reduceEqDiff, Nat.one_ne_zero, Nat.succ_ne_zero, Nat.zero_ne_one, reduceIte, List.set_cons_zero, List.set_cons_succ] at F1
      go_wp2_with fail
      refine Lv.call (checkPitch_any e f g h _) (L1.out.put _ _) ?_
      intro w2 L2'
      have L2 := hide L2'
      have F2 := L2'.at
      clear L2' F1
      simp only [AllAt, CellsAt, updL, List.map, Nat.zero_add, Nat.reduceAdd, and_true, World.size_alloc, World.heap_drewN, heap_drew, size_set, Nat.add_eq_left, Nat.left_eq_add, Nat.add_right_cancel_iff, Nat.reduceEqDiff, Nat.one_ne_zero, Nat.succ_ne_zero, Nat.zero_ne_one, reduceIte, List.set_cons_zero, List.set_cons_succ] at F2
      rcases pitchErr_cases e f g h with ⟨hE, hok⟩ | ⟨hE, hno⟩
      · rw [hE]
        have H := hide hok
        clear hE hok
        go_wp2
        go_roundw
        case rel => exact ⟨L2.out.of (by simp), Or.inr (Or.inr ⟨rfl, HA, H⟩)⟩
        case measure => simp [intOf]
      · have HE : Hid (pitchesErr a b c d e f g h = 2) := if_neg fun hh => hno hh.2
        rw [hE]
        clear hE hno
        go_wp2
        go_ret
        exact ⟨ret_int HE.out.symm, L2.out.below⟩
    · have HE : Hid (pitchesErr a b c d e f g h = 0) := if_pos ⟨HA.out, HC.out⟩
      go_wp2
      go_ret
      exact ⟨ret_int HE.out.symm, L1.out.below⟩

set_option maxHeartbeats 1000000 in
set_option maxRecDepth 100000 in
theorem joined_any (a b c d e f g h s : Int) (w : World) (hp : smallP a b c d) (hq : smallP e f g h) (hs : -1 ≤ s ∧ s ≤ 1) :
    Calls Try.prog 58 #[.agg #[.int .i64 a, .int .i64 b, .int .i64 c, .int .i64 d], .agg #[.int .i64 e, .int .i64 f, .int .i64 g, .int .i64 h], .int .i64 s] w
      fun x w' => x = .returned (.agg #[.int .i64 (jn a h s e d), .int .i64 (jn b h s f d), .int .i64 (jn c h s g d)]) ∧ Below w.heap.size w w' := by
  obtain ⟨hd, ha, hb, hc⟩ := hp
  obtain ⟨hh, he, hf, hg⟩ := hq
  have f1 := jn_facts ha he hh hd hs
  have f2 := jn_facts hb hf hh hd hs
  have f3 := jn_facts hc hg hh hd hs
  have k1 := jn_wraps ha he hh hd hs
  have k2 := jn_wraps hb hf hh hd hs
  have k3 := jn_wraps hc hg hh hd hs
  have q0 : ∀ w : World, (Instr.index 90 (.agg #[.int .i64 e, .int .i64 f, .int .i64 g]) (.int .i64 0)).run Try.prog w = .ok (.int .i64 e) w := fun _ => by kernel_rfl
  have q1 : ∀ w : World, (Instr.index 90 (.agg #[.int .i64 e, .int .i64 f, .int .i64 g]) (.int .i64 1)).run Try.prog w = .ok (.int .i64 f) w := fun _ => by kernel_rfl
  have q2 : ∀ w : World, (Instr.index 90 (.agg #[.int .i64 e, .int .i64 f, .int .i64 g]) (.int .i64 2)).run Try.prog w = .ok (.int .i64 g) w := fun _ => by kernel_rfl
  have L0 := hide (Lv.start w)
  go_enter Try.func58, Try.ntmps58
  go_wp2_with fail
  refine Lv.call (exponentsOf_any a b c d _) (((L0.out.put _ _).put _ _).put _ _) ?_
  intro w2 L2'
  have L2 := hide L2'
  have F2 := L2'.at
  clear L2'
  simp only [AllAt, CellsAt, updL, List.map, Nat.zero_add, Nat.reduceAdd, and_true, World.size_alloc, World.heap_drewN, heap_drew, size_set, Nat.add_eq_left, Nat.left_eq_add, Nat.add_right_cancel_iff, Nat.reduceEqDiff, Nat.one_ne_zero, Nat.succ_ne_zero, Nat.zero_ne_one, reduceIte, List.set_cons_zero, List.set_cons_succ] at F2
  have z2 : w.heap.size + 1 + 1 < w2.heap.size := by omega
  go_wp2_with fail
  refine Lv.call (exponentsOf_any e f g h _) (L2.out.put _ _) ?_
  intro w3 L3'
  have L3 := hide L3'
  have F3 := L3'.at
  clear L3' F2
  simp only [AllAt, CellsAt, updL, List.map, Nat.zero_add, Nat.reduceAdd, and_true, World.size_alloc, World.heap_drewN, heap_drew, size_set, Nat.add_eq_left, Nat.left_eq_add, Nat.add_right_cancel_iff, Nat.reduceEqDiff, Nat.one_ne_zero, Nat.succ_ne_zero, Nat.zero_ne_one, reduceIte, List.set_cons_zero, List.set_cons_succ] at F3
  have n1 : ¬ w.heap.size = w2.heap.size := by omega
  have n2 : ¬ w.heap.size + 1 = w2.heap.size := by omega
  have n3 : ¬ w.heap.size + 1 + 1 = w2.heap.size := by omega
  have m1 : ¬ w2.heap.size = w.heap.size := by omega
  have m2 : ¬ w2.heap.size = w.heap.size + 1 := by omega
  have m3 : ¬ w2.heap.size = w.heap.size + 1 + 1 := by omega
  go_wp2
  go_loopw [14] (fun i wr => (i = .int .i64 0 ∧ Hid (Lv w wr [(w2.heap.size, 90, [.int .i64 a, .int .i64 b, .int .i64 c]), (w.heap.size + 1 + 1, 90, [.int .i64 0, .int .i64 0, .int .i64 0]), (w.heap.size + 1, 23, [.int .i64 e, .int .i64 f, .int .i64 g, .int .i64 h]), (w.heap.size, 23, [.int .i64 a, .int .i64 b, .int .i64 c, .int .i64 d])])) ∨
    (i = .int .i64 1 ∧ Hid (Lv w wr [(w2.heap.size, 90, [.int .i64 (jn a h s e d), .int .i64 b, .int .i64 c]), (w.heap.size + 1 + 1, 90, [.int .i64 0, .int .i64 0, .int .i64 0]), (w.heap.size + 1, 23, [.int .i64 e, .int .i64 f, .int .i64 g, .int .i64 h]), (w.heap.size, 23, [.int .i64 a, .int .i64 b, .int .i64 c, .int .i64 d])])) ∨
    (i = .int .i64 2 ∧ Hid (Lv w wr [(w2.heap.size, 90, [.int .i64 (jn a h s e d), .int .i64 (jn b h s f d), .int .i64 c]), (w.heap.size + 1 + 1, 90, [.int .i64 0, .int .i64 0, .int .i64 0]), (w.heap.size + 1, 23, [.int .i64 e, .int .i64 f, .int .i64 g, .int .i64 h]), (w.heap.size, 23, [.int .i64 a, .int .i64 b, .int .i64 c, .int .i64 d])])) ∨
    (i = .int .i64 3 ∧ Hid (Lv w wr [(w2.heap.size, 90, [.int .i64 (jn a h s e d), .int .i64 (jn b h s f d), .int .i64 (jn c h s g d)]), (w.heap.size + 1 + 1, 90, [.int .i64 0, .int .i64 0, .int .i64 0]), (w.heap.size + 1, 23, [.int .i64 e, .int .i64 f, .int .i64 g, .int .i64 h]), (w.heap.size, 23, [.int .i64 a, .int .i64 b, .int .i64 c, .int .i64 d])]))) (fun i _ => 3 - (intOf i).toNat)
  case atStart => exact Or.inl ⟨rfl, hide (by simpa using L3.out)⟩
  case round =>
    clear F3 L3
    rcases hrel with ⟨rfl, L1⟩ | ⟨rfl, L1⟩ | ⟨rfl, L1⟩ | ⟨rfl, L1⟩
    · have F1 := L1.out.at
      simp only [AllAt, CellsAt, updL, List.map, Nat.zero_add, Nat.reduceAdd, and_true, World.size_alloc, World.heap_drewN, heap_drew, size_set, Nat.add_eq_left, Nat.left_eq_add, Nat.add_right_cancel_iff, Nat.reduceEqDiff, Nat.one_ne_zero, Nat.succ_ne_zero, Nat.zero_ne_one, reduceIte, List.set_cons_zero, List.set_cons_succ] at F1
      go_wp2
      go_region
      go_wp2
      go_roundw
      case rel =>
        have h9 := (L1.out.set w2.heap.size 0 (.int .i64 (jn a h s e d)) (by omega)).drew
        refine Or.inr (Or.inl ⟨rfl, hide ?_⟩)
        simpa [updL, n1, n2, n3] using h9
      case measure => simp [intOf]
    · have F1 := L1.out.at
      simp only [AllAt, CellsAt, updL, List.map, Nat.zero_add, Nat.reduceAdd, and_true, World.size_alloc, World.heap_drewN, heap_drew, size_set, Nat.add_eq_left, Nat.left_eq_add, Nat.add_right_cancel_iff, Nat.reduceEqDiff, Nat.one_ne_zero, Nat.succ_ne_zero, Nat.zero_ne_one, reduceIte, List.set_cons_zero, List.set_cons_succ] at F1
      go_wp2
      go_region
      go_wp2
      go_roundw
      case rel =>
        have h9 := (L1.out.set w2.heap.size 1 (.int .i64 (jn b h s f d)) (by omega)).drew
        refine Or.inr (Or.inr (Or.inl ⟨rfl, hide ?_⟩))
        simpa [updL, n1, n2, n3] using h9
      case measure => simp [intOf]
    · have F1 := L1.out.at
      simp only [AllAt, CellsAt, updL, List.map, Nat.zero_add, Nat.reduceAdd, and_true, World.size_alloc, World.heap_drewN, heap_drew, size_set, Nat.add_eq_left, Nat.left_eq_add, Nat.add_right_cancel_iff, Nat.reduceEqDiff, Nat.one_ne_zero, Nat.succ_ne_zero, Nat.zero_ne_one, reduceIte, List.set_cons_zero, List.set_cons_succ] at F1
      go_wp2
      go_region
      go_wp2
      go_roundw
      case rel =>
        have h9 := (L1.out.set w2.heap.size 2 (.int .i64 (jn c h s g d)) (by omega)).drew
        refine Or.inr (Or.inr (Or.inr ⟨rfl, hide ?_⟩))
        simpa [updL, n1, n2, n3] using h9
      case measure => simp [intOf]
    · have F1 := L1.out.at
      simp only [AllAt, CellsAt, updL, List.map, Nat.zero_add, Nat.reduceAdd, and_true, World.size_alloc, World.heap_drewN, heap_drew, size_set, Nat.add_eq_left, Nat.left_eq_add, Nat.add_right_cancel_iff, Nat.reduceEqDiff, Nat.one_ne_zero, Nat.succ_ne_zero, Nat.zero_ne_one, reduceIte, List.set_cons_zero, List.set_cons_succ] at F1
      go_wp2
      refine bodyPost_ret (v := .agg #[.int .i64 (jn a h s e d), .int .i64 (jn b h s f d), .int .i64 (jn c h s g d)]) (by simp [results, Try.results58, go_sem, F1]) rfl ⟨rfl, ?_⟩
      repeat (first | (with_reducible exact L1.out.below) | refine Below.setCell ?_ (by first | omega | (simp; done) | (simp; omega)) _ | refine Below.alloc ?_ (by first | omega | (simp; done) | (simp; omega)) _ | refine below_drewN ?_ _ | refine Below.drew ?_)

set_option maxHeartbeats 1000000 in
set_option maxRecDepth 100000 in
theorem join_ok (a b c d e f g h : Int) (w : World) (hp : okP a b c d) (hq : okP e f g h) :
    Calls Try.prog 15 #[.agg #[.int .i64 a, .int .i64 b, .int .i64 c, .int .i64 d], .agg #[.int .i64 e, .int .i64 f, .int .i64 g, .int .i64 h]] w
      fun x w' => x = .returned (pitchR (p2 (jn a h 1 e d) (jn b h 1 f d) (jn c h 1 g d) (d * h)) (p3 (jn a h 1 e d) (jn b h 1 f d) (jn c h 1 g d) (d * h)) (p5 (jn a h 1 e d) (jn b h 1 f d) (jn c h 1 g d) (d * h)) (pd (jn a h 1 e d) (jn b h 1 f d) (jn c h 1 g d) (d * h)) (pe (jn a h 1 e d) (jn b h 1 f d) (jn c h 1 g d) (d * h))) ∧ Below w.heap.size w w' := by
  have HE : Hid (pitchesErr a b c d e f g h = 0) := if_pos ⟨hp, hq⟩
  have sp := small_ok hp
  have sq := small_ok hq
  have f1 := (jn_facts (s := 1) sp.2.1 sq.2.1 sq.1 sp.1 (by omega)).2.2.2
  have f2 := (jn_facts (s := 1) sp.2.2.1 sq.2.2.1 sq.1 sp.1 (by omega)).2.2.2
  have f3 := (jn_facts (s := 1) sp.2.2.2 sq.2.2.2 sq.1 sp.1 (by omega)).2.2.2
  have hd := sp.1
  have hh := sq.1
  have dh : 1 ≤ d * h ∧ d * h ≤ 144 := by
    have h1 := mul_bound (x := d) (y := h) 12 12 (by omega) (by omega)
    rw [show (12 * 12 : Nat) = 144 from rfl] at h1
    have := Int.mul_le_mul_of_nonneg_left hh.1 (show 0 ≤ d by omega)
    omega
  have W1 : IntKind.i64.wrap (d * h) = d * h := by rw [IntKind.wrap_i64]; omega
  have SP := hide sp
  have SQ := hide sq
  clear hp hq sp sq
  have e1 : ¬ w.heap.size = w.heap.size + 1 + 1 := by omega
  have e2 : ¬ w.heap.size + 1 + 1 = w.heap.size := by omega
  have L0 := hide (Lv.start w)
  go_enter Try.func15, Try.ntmps15
  go_wp2_with fail
  refine Lv.call (checkPitches_any _ 2 a b c d e f g h _ (Blk.new _ _ _ _ (by simp))) ((((L0.out.put _ _).put _ _).put _ _).put _ _) ?_
  intro w2 L2'
  have L2 := hide L2'
  have F2 := L2'.at
  clear L2'
  simp only [AllAt, CellsAt, updL, List.map, Nat.zero_add, Nat.reduceAdd, and_true, World.size_alloc, World.heap_drewN, heap_drew, size_set, Nat.add_eq_left, Nat.left_eq_add, Nat.add_right_cancel_iff, Nat.reduceEqDiff, Nat.one_ne_zero, Nat.succ_ne_zero, Nat.zero_ne_one, reduceIte, List.set_cons_zero, List.set_cons_succ] at F2
  rw [HE.out]
  go_wp2
  go_region_held3 (fun w' => w'.cell? ⟨w.heap.size, 0, none⟩ = some (.int .i64 a) ∧ w'.cell? ⟨w.heap.size, 1, none⟩ = some (.int .i64 b) ∧ w'.cell? ⟨w.heap.size, 2, none⟩ = some (.int .i64 c) ∧ w'.cell? ⟨w.heap.size, 3, none⟩ = some (.int .i64 d) ∧
      w'.cell? ⟨w.heap.size + 1, 0, none⟩ = some (.int .i64 e) ∧ w'.cell? ⟨w.heap.size + 1, 1, none⟩ = some (.int .i64 f) ∧ w'.cell? ⟨w.heap.size + 1, 2, none⟩ = some (.int .i64 g) ∧ w'.cell? ⟨w.heap.size + 1, 3, none⟩ = some (.int .i64 h))
    (go_keep)
    (first | (go_at_call 58; refine Lv.call (joined_any a b c d e f g h 1 _ SP.out SQ.out (by omega)) (L2.out.drew) ?_; intro w3 L3'; have L3 := hide L3'; have F3 := L3'.at; clear L3'; simp only [AllAt, CellsAt, updL, List.map, Nat.zero_add, Nat.reduceAdd, and_true, World.size_alloc, World.heap_drewN, heap_drew, size_set, Nat.add_eq_left, Nat.left_eq_add, Nat.add_right_cancel_iff, Nat.reduceEqDiff, Nat.one_ne_zero, Nat.succ_ne_zero, Nat.zero_ne_one, reduceIte, List.set_cons_zero, List.set_cons_succ] at F3) | (go_at_call 51; refine Lv.call (pitchOf_any (jn a h 1 e d) (jn b h 1 f d) (jn c h 1 g d) (d * h) _ (by omega) (by omega) (by omega) (by omega)) L3.out ?_; intro w4 L4'; have L4 := hide L4'; have F4 := L4'.at; clear L4'; simp only [AllAt, CellsAt, updL, List.map, Nat.zero_add, Nat.reduceAdd, and_true, World.size_alloc, World.heap_drewN, heap_drew, size_set, Nat.add_eq_left, Nat.left_eq_add, Nat.add_right_cancel_iff, Nat.reduceEqDiff, Nat.one_ne_zero, Nat.succ_ne_zero, Nat.zero_ne_one, reduceIte, List.set_cons_zero, List.set_cons_succ] at F4))
  go_wp2
  refine bodyPost_ret (v := pitchR (p2 (jn a h 1 e d) (jn b h 1 f d) (jn c h 1 g d) (d * h)) (p3 (jn a h 1 e d) (jn b h 1 f d) (jn c h 1 g d) (d * h)) (p5 (jn a h 1 e d) (jn b h 1 f d) (jn c h 1 g d) (d * h)) (pd (jn a h 1 e d) (jn b h 1 f d) (jn c h 1 g d) (d * h)) (pe (jn a h 1 e d) (jn b h 1 f d) (jn c h 1 g d) (d * h))) (by simp [results, Try.results15, go_sem, F4, pitchR]) rfl ⟨rfl, ?_⟩
  repeat (first | (with_reducible exact L4.out.below) | refine Below.setCell ?_ (by first | omega | (simp; done) | (simp; omega)) _ | refine Below.alloc ?_ (by first | omega | (simp; done) | (simp; omega)) _ | refine below_drewN ?_ _ | refine Below.drew ?_)

set_option maxHeartbeats 1000000 in
set_option maxRecDepth 100000 in
theorem join_bad (a b c d e f g h : Int) (w : World) (hp : ¬ (okP a b c d ∧ okP e f g h)) :
    Calls Try.prog 15 #[.agg #[.int .i64 a, .int .i64 b, .int .i64 c, .int .i64 d], .agg #[.int .i64 e, .int .i64 f, .int .i64 g, .int .i64 h]] w
      fun x w' => x = .returned (pitchR 0 0 0 0 2) ∧ Below w.heap.size w w' := by
  have HE : Hid (pitchesErr a b c d e f g h = 2) := if_neg hp
  clear hp
  have L0 := hide (Lv.start w)
  go_enter Try.func15, Try.ntmps15
  go_wp2_with fail
  refine Lv.call (checkPitches_any _ 2 a b c d e f g h _ (Blk.new _ _ _ _ (by simp))) ((((L0.out.put _ _).put _ _).put _ _).put _ _) ?_
  intro w2 L2'
  have L2 := hide L2'
  have F2 := L2'.at
  clear L2'
  simp only [AllAt, CellsAt, updL, List.map, Nat.zero_add, Nat.reduceAdd, and_true, World.size_alloc, World.heap_drewN, heap_drew, size_set, Nat.add_eq_left, Nat.left_eq_add, Nat.add_right_cancel_iff, Nat.reduceEqDiff, Nat.one_ne_zero, Nat.succ_ne_zero, Nat.zero_ne_one, reduceIte, List.set_cons_zero, List.set_cons_succ] at F2
  rw [HE.out]
  go_wp2
  refine bodyPost_ret (v := pitchR 0 0 0 0 2) (by simp [results, Try.results15, go_sem, F2, pitchR]) rfl ⟨rfl, ?_⟩
  repeat (first | (with_reducible exact L2.out.below) | refine Below.setCell ?_ (by first | omega | (simp; done) | (simp; omega)) _ | refine Below.alloc ?_ (by first | omega | (simp; done) | (simp; omega)) _ | refine below_drewN ?_ _ | refine Below.drew ?_)

end Go.Proofs.Ytfmonpjoadjimab
