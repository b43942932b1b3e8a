/- Contracts of plate.checkShare, Margin, and of agrafferef03.part, Margin. Every bound is a premise of the theorem that bears it. -/
import Derived.Test.YtdhbjklbgdnfmaaPlSmall
import Derived.Test.YtdhbjklbgdnfmaaPlRef
import Derived.Handy
namespace Go.Proofs.Ytdhbjklbgdnfmaa
open Go.RowKit
set_option linter.unusedVariables false
set_option linter.unusedSimpArgs false

def in64' (x : Int) : Prop := -9223372036854775808 ≤ x ∧ x ≤ 9223372036854775807
/-- The error of a load or a limit. -/
def shareE (a b : Int) : Int := if lowF a b then (if (0 ≤ a ∧ a ≤ 1000000) ∧ b ≤ 1000000 then 0 else 2) else 3
theorem share_cases (a b : Int) : (shareE a b = 3 ∧ ¬ lowF a b) ∨ (shareE a b = 2 ∧ lowF a b ∧ ¬ ((0 ≤ a ∧ a ≤ 1000000) ∧ b ≤ 1000000)) ∨ (shareE a b = 0 ∧ lowF a b ∧ (0 ≤ a ∧ a ≤ 1000000) ∧ b ≤ 1000000) := by
  unfold shareE
  by_cases h : lowF a b
  · by_cases h2 : (0 ≤ a ∧ a ≤ 1000000) ∧ b ≤ 1000000
    · rw [if_pos h, if_pos h2]; exact Or.inr (Or.inr ⟨rfl, h, h2⟩)
    · rw [if_pos h, if_neg h2]; exact Or.inr (Or.inl ⟨rfl, h, h2⟩)
  · rw [if_neg h]; exact Or.inl ⟨rfl, h⟩
theorem fracErr_not {a b : Int} (h : ¬ lowF a b) : fracErr a b = 3 := if_neg h
theorem fracErr_low {a b : Int} (h : lowF a b) : fracErr a b = 0 ∨ fracErr a b = 2 := by
  unfold fracErr
  rw [if_pos h]
  split
  · exact Or.inl rfl
  · exact Or.inr rfl
set_option maxHeartbeats 2000000 in
set_option maxRecDepth 100000 in
theorem plShare_any (a b : Int) (w : World) (ha : in64' a) (hb : in64' b) :
    Calls Try.prog 104 #[.agg #[.int .i64 a, .int .i64 b]] w fun e w' => e = .returned (.int .i64 (shareE a b)) ∧ Below w.heap.size w w' := by
  rcases share_cases a b with ⟨hE, h⟩ | ⟨hE, h, h2⟩ | ⟨hE, h, h1, h2⟩
  · have HF := hide (fracErr_not h)
    rw [hE]
    clear h hE
    have L0 := hide (Lv.start w)
    go_enter Try.func104, Try.ntmps104
    go_wp2_with fail
    refine Lv.call (checkFrac_any a b _ ha hb) (L0.out.put _ _) ?_
    intro w1 L1'
    have L1 := hide L1'
    have F1 := L1'.at
    clear L1'
    simp only [AllAt, CellsAt, updL, List.map, Nat.zero_add, Nat.reduceAdd, and_true, World.size_alloc, World.heap_drewN, heap_drew, size_set, Nat.add_eq_left, Nat.left_eq_add, Nat.add_right_cancel_iff, ne_up2, ne_dn2, ne_up3, ne_dn3, ne_up4, ne_dn4, Nat.reduceEqDiff, Nat.one_ne_zero, Nat.succ_ne_zero, Nat.zero_ne_one, reduceIte, List.set_cons_zero, List.set_cons_succ] at F1
    rw [HF.out]
    go_wp2
    go_ret
    refine ⟨rfl, ?_⟩
    repeat (first | (with_reducible exact L1.out.below) | refine Below.setCell ?_ (by first | omega | (simp; done) | (simp; omega)) _ | refine Below.alloc ?_ (by first | omega | (simp; done) | (simp; omega)) _ | refine below_drewN ?_ _ | refine Below.drew ?_)
  · obtain ⟨f, hf, hf3⟩ : ∃ f, fracErr a b = f ∧ (f = 0 ∨ f = 2) := ⟨_, rfl, fracErr_low h⟩
    have HF := hide hf
    have b3 : ((f : Int) == 3) = false := by rw [beq_eq_false_iff_ne]; omega
    rw [hE]
    clear h hE hf hf3
    by_cases g1 : a < 0
    · have L0 := hide (Lv.start w)
      go_enter Try.func104, Try.ntmps104
      go_wp2_with fail
      refine Lv.call (checkFrac_any a b _ ha hb) (L0.out.put _ _) ?_
      intro w1 L1'
      have L1 := hide L1'
      have F1 := L1'.at
      clear L1'
      simp only [AllAt, CellsAt, updL, List.map, Nat.zero_add, Nat.reduceAdd, and_true, World.size_alloc, World.heap_drewN, heap_drew, size_set, Nat.add_eq_left, Nat.left_eq_add, Nat.add_right_cancel_iff, ne_up2, ne_dn2, ne_up3, ne_dn3, ne_up4, ne_dn4, Nat.reduceEqDiff, Nat.one_ne_zero, Nat.succ_ne_zero, Nat.zero_ne_one, reduceIte, List.set_cons_zero, List.set_cons_succ] at F1
      rw [HF.out]
      go_wp2
      go_ret
      refine ⟨rfl, ?_⟩
      repeat (first | (with_reducible exact L1.out.below) | refine Below.setCell ?_ (by first | omega | (simp; done) | (simp; omega)) _ | refine Below.alloc ?_ (by first | omega | (simp; done) | (simp; omega)) _ | refine below_drewN ?_ _ | refine Below.drew ?_)
    · by_cases g2 : 1000000 < a
      · have L0 := hide (Lv.start w)
        go_enter Try.func104, Try.ntmps104
        go_wp2_with fail
        refine Lv.call (checkFrac_any a b _ ha hb) (L0.out.put _ _) ?_
        intro w1 L1'
        have L1 := hide L1'
        have F1 := L1'.at
        clear L1'
        simp only [AllAt, CellsAt, updL, List.map, Nat.zero_add, Nat.reduceAdd, and_true, World.size_alloc, World.heap_drewN, heap_drew, size_set, Nat.add_eq_left, Nat.left_eq_add, Nat.add_right_cancel_iff, ne_up2, ne_dn2, ne_up3, ne_dn3, ne_up4, ne_dn4, Nat.reduceEqDiff, Nat.one_ne_zero, Nat.succ_ne_zero, Nat.zero_ne_one, reduceIte, List.set_cons_zero, List.set_cons_succ] at F1
        rw [HF.out]
        go_wp2
        go_ret
        refine ⟨rfl, ?_⟩
        repeat (first | (with_reducible exact L1.out.below) | refine Below.setCell ?_ (by first | omega | (simp; done) | (simp; omega)) _ | refine Below.alloc ?_ (by first | omega | (simp; done) | (simp; omega)) _ | refine below_drewN ?_ _ | refine Below.drew ?_)
      · have g3 : 1000000 < b := by omega
        clear h2
        have L0 := hide (Lv.start w)
        go_enter Try.func104, Try.ntmps104
        go_wp2_with fail
        refine Lv.call (checkFrac_any a b _ ha hb) (L0.out.put _ _) ?_
        intro w1 L1'
        have L1 := hide L1'
        have F1 := L1'.at
        clear L1'
        simp only [AllAt, CellsAt, updL, List.map, Nat.zero_add, Nat.reduceAdd, and_true, World.size_alloc, World.heap_drewN, heap_drew, size_set, Nat.add_eq_left, Nat.left_eq_add, Nat.add_right_cancel_iff, ne_up2, ne_dn2, ne_up3, ne_dn3, ne_up4, ne_dn4, Nat.reduceEqDiff, Nat.one_ne_zero, Nat.succ_ne_zero, Nat.zero_ne_one, reduceIte, List.set_cons_zero, List.set_cons_succ] at F1
        rw [HF.out]
        go_wp2
        go_ret
        refine ⟨rfl, ?_⟩
        repeat (first | (with_reducible exact L1.out.below) | refine Below.setCell ?_ (by first | omega | (simp; done) | (simp; omega)) _ | refine Below.alloc ?_ (by first | omega | (simp; done) | (simp; omega)) _ | refine below_drewN ?_ _ | refine Below.drew ?_)
  · obtain ⟨f, hf, hf3⟩ : ∃ f, fracErr a b = f ∧ (f = 0 ∨ f = 2) := ⟨_, rfl, fracErr_low h⟩
    have HF := hide hf
    have b3 : ((f : Int) == 3) = false := by rw [beq_eq_false_iff_ne]; omega
    have g1 : ¬ a < 0 := by omega
    have g2 : ¬ 1000000 < a := by omega
    have g3 : ¬ 1000000 < b := by omega
    rw [hE]
    clear h hE hf hf3 h1 h2
    have L0 := hide (Lv.start w)
    go_enter Try.func104, Try.ntmps104
    go_wp2_with fail
    refine Lv.call (checkFrac_any a b _ ha hb) (L0.out.put _ _) ?_
    intro w1 L1'
    have L1 := hide L1'
    have F1 := L1'.at
    clear L1'
    simp only [AllAt, CellsAt, updL, List.map, Nat.zero_add, Nat.reduceAdd, and_true, World.size_alloc, World.heap_drewN, heap_drew, size_set, Nat.add_eq_left, Nat.left_eq_add, Nat.add_right_cancel_iff, ne_up2, ne_dn2, ne_up3, ne_dn3, ne_up4, ne_dn4, Nat.reduceEqDiff, Nat.one_ne_zero, Nat.succ_ne_zero, Nat.zero_ne_one, reduceIte, List.set_cons_zero, List.set_cons_succ] at F1
    rw [HF.out]
    go_wp2
    go_ret
    refine ⟨rfl, ?_⟩
    repeat (first | (with_reducible exact L1.out.below) | refine Below.setCell ?_ (by first | omega | (simp; done) | (simp; omega)) _ | refine Below.alloc ?_ (by first | omega | (simp; done) | (simp; omega)) _ | refine below_drewN ?_ _ | refine Below.drew ?_)
set_option maxHeartbeats 2000000 in
set_option maxRecDepth 100000 in
theorem refPart_any (a b : Int) (w : World) (ha : in64' a) (hb : in64' b) :
    Calls Try.prog 106 #[.agg #[.int .i64 a, .int .i64 b]] w fun e w' => e = .returned (.int .i64 (shareE a b)) ∧ Below w.heap.size w w' := by
  rcases share_cases a b with ⟨hE, h⟩ | ⟨hE, h, h2⟩ | ⟨hE, h, h1, h2⟩
  · have HF := hide (decide_eq_false h)
    rw [hE]
    clear h hE
    have L0 := hide (Lv.start w)
    go_enter Try.func106, Try.ntmps106
    go_wp2_with fail
    refine Lv.call (isLowest_any a b _ ha hb) (L0.out.put _ _) ?_
    intro w1 L1'
    have L1 := hide L1'
    have F1 := L1'.at
    clear L1'
    simp only [AllAt, CellsAt, updL, List.map, Nat.zero_add, Nat.reduceAdd, and_true, World.size_alloc, World.heap_drewN, heap_drew, size_set, Nat.add_eq_left, Nat.left_eq_add, Nat.add_right_cancel_iff, ne_up2, ne_dn2, ne_up3, ne_dn3, ne_up4, ne_dn4, Nat.reduceEqDiff, Nat.one_ne_zero, Nat.succ_ne_zero, Nat.zero_ne_one, reduceIte, List.set_cons_zero, List.set_cons_succ] at F1
    rw [HF.out]
    go_wp2
    go_ret
    refine ⟨rfl, ?_⟩
    repeat (first | (with_reducible exact L1.out.below) | refine Below.setCell ?_ (by first | omega | (simp; done) | (simp; omega)) _ | refine Below.alloc ?_ (by first | omega | (simp; done) | (simp; omega)) _ | refine below_drewN ?_ _ | refine Below.drew ?_)
  · have HF := hide (decide_eq_true h)
    rw [hE]
    clear h hE
    by_cases g1 : 0 ≤ a ∧ a ≤ 1000000
    · have J := hide (inR_yes (n := a) (lo := 0) (hi := 1000000) g1)
      have g3 : 1000000 < b := by omega
      clear h2
      have L0 := hide (Lv.start w)
      go_enter Try.func106, Try.ntmps106
      go_wp2_with fail
      refine Lv.call (isLowest_any a b _ ha hb) (L0.out.put _ _) ?_
      intro w1 L1'
      have L1 := hide L1'
      have F1 := L1'.at
      clear L1'
      simp only [AllAt, CellsAt, updL, List.map, Nat.zero_add, Nat.reduceAdd, and_true, World.size_alloc, World.heap_drewN, heap_drew, size_set, Nat.add_eq_left, Nat.left_eq_add, Nat.add_right_cancel_iff, ne_up2, ne_dn2, ne_up3, ne_dn3, ne_up4, ne_dn4, Nat.reduceEqDiff, Nat.one_ne_zero, Nat.succ_ne_zero, Nat.zero_ne_one, reduceIte, List.set_cons_zero, List.set_cons_succ] at F1
      rw [HF.out]
      go_wp2_with fail
      refine Lv.same (within3_any a 0 1000000 _) ?_
      rw [J.out]
      go_wp2
      go_ret
      refine ⟨rfl, ?_⟩
      repeat (first | (with_reducible exact L1.out.below) | refine Below.setCell ?_ (by first | omega | (simp; done) | (simp; omega)) _ | refine Below.alloc ?_ (by first | omega | (simp; done) | (simp; omega)) _ | refine below_drewN ?_ _ | refine Below.drew ?_)
    · have J := hide (inR_no (n := a) (lo := 0) (hi := 1000000) g1)
      clear h2
      have L0 := hide (Lv.start w)
      go_enter Try.func106, Try.ntmps106
      go_wp2_with fail
      refine Lv.call (isLowest_any a b _ ha hb) (L0.out.put _ _) ?_
      intro w1 L1'
      have L1 := hide L1'
      have F1 := L1'.at
      clear L1'
      simp only [AllAt, CellsAt, updL, List.map, Nat.zero_add, Nat.reduceAdd, and_true, World.size_alloc, World.heap_drewN, heap_drew, size_set, Nat.add_eq_left, Nat.left_eq_add, Nat.add_right_cancel_iff, ne_up2, ne_dn2, ne_up3, ne_dn3, ne_up4, ne_dn4, Nat.reduceEqDiff, Nat.one_ne_zero, Nat.succ_ne_zero, Nat.zero_ne_one, reduceIte, List.set_cons_zero, List.set_cons_succ] at F1
      rw [HF.out]
      go_wp2_with fail
      refine Lv.same (within3_any a 0 1000000 _) ?_
      rw [J.out]
      go_wp2
      go_ret
      refine ⟨rfl, ?_⟩
      repeat (first | (with_reducible exact L1.out.below) | refine Below.setCell ?_ (by first | omega | (simp; done) | (simp; omega)) _ | refine Below.alloc ?_ (by first | omega | (simp; done) | (simp; omega)) _ | refine below_drewN ?_ _ | refine Below.drew ?_)
  · have HF := hide (decide_eq_true h)
    have J := hide (inR_yes (n := a) (lo := 0) (hi := 1000000) h1)
    have g3 : ¬ 1000000 < b := by omega
    rw [hE]
    clear h hE h1 h2
    have L0 := hide (Lv.start w)
    go_enter Try.func106, Try.ntmps106
    go_wp2_with fail
    refine Lv.call (isLowest_any a b _ ha hb) (L0.out.put _ _) ?_
    intro w1 L1'
    have L1 := hide L1'
    have F1 := L1'.at
    clear L1'
    simp only [AllAt, CellsAt, updL, List.map, Nat.zero_add, Nat.reduceAdd, and_true, World.size_alloc, World.heap_drewN, heap_drew, size_set, Nat.add_eq_left, Nat.left_eq_add, Nat.add_right_cancel_iff, ne_up2, ne_dn2, ne_up3, ne_dn3, ne_up4, ne_dn4, Nat.reduceEqDiff, Nat.one_ne_zero, Nat.succ_ne_zero, Nat.zero_ne_one, reduceIte, List.set_cons_zero, List.set_cons_succ] at F1
    rw [HF.out]
    go_wp2_with fail
    refine Lv.same (within3_any a 0 1000000 _) ?_
    rw [J.out]
    go_wp2
    go_ret
    refine ⟨rfl, ?_⟩
    repeat (first | (with_reducible exact L1.out.below) | refine Below.setCell ?_ (by first | omega | (simp; done) | (simp; omega)) _ | refine Below.alloc ?_ (by first | omega | (simp; done) | (simp; omega)) _ | refine below_drewN ?_ _ | refine Below.drew ?_)
/-- What Margin returns. -/
def marN (a b c d : Int) : Int := if shareE a b = 0 ∧ shareE c d = 0 ∧ a ≠ 0 then (1000 * c * b) / (d * a) else 0
def marE (a b c d : Int) : Int := if shareE a b = 0 then (if shareE c d = 0 then (if a = 0 then 11 else 0) else shareE c d) else shareE a b
theorem mar_in {a b c d : Int} (h1 : lowF a b ∧ (0 ≤ a ∧ a ≤ 1000000) ∧ b ≤ 1000000) (h2 : lowF c d ∧ (0 ≤ c ∧ c ≤ 1000000) ∧ d ≤ 1000000) (ha : a ≠ 0) : (0 ≤ 1000 * c * b ∧ 1000 * c * b ≤ 1000000000000000) ∧ (1 ≤ d * a ∧ d * a ≤ 1000000000000) := by
  obtain ⟨⟨hb1, _⟩, ⟨ha0, ha1⟩, hb2⟩ := h1
  obtain ⟨⟨hd1, _⟩, hc, hd2⟩ := h2
  have k1 := mul_bound (x := 1000 * c) (y := b) 1000000000 1000000 (by omega) (by omega)
  have k2 := mul_bound (x := d) (y := a) 1000000 1000000 (by omega) (by omega)
  rw [show (1000000000 * 1000000 : Nat) = 1000000000000000 from rfl] at k1
  rw [show (1000000 * 1000000 : Nat) = 1000000000000 from rfl] at k2
  have k3 : 0 ≤ 1000 * c * b := Int.mul_nonneg (by omega) (by omega)
  have k4 : 1 * 1 ≤ d * a := Int.mul_le_mul (by omega) (by omega) (by omega) (by omega)
  omega
set_option maxHeartbeats 2000000 in
set_option maxRecDepth 100000 in
theorem plMargin_any (a b c d : Int) (w : World) (ha : in64' a) (hb : in64' b) (hc : in64' c) (hd : in64' d) :
    Calls Try.prog 63 #[.agg #[.int .i64 a, .int .i64 b], .agg #[.int .i64 c, .int .i64 d]] w fun e w' => e = .returned (.tuple #[.int .i64 (marN a b c d), .int .i64 (marE a b c d)]) ∧ Below w.heap.size w w' := by
  by_cases h1 : shareE a b = 0
  · by_cases h2 : shareE c d = 0
    · have s1 := share_cases a b
      have s2 := share_cases c d
      have k1 : lowF a b ∧ (0 ≤ a ∧ a ≤ 1000000) ∧ b ≤ 1000000 := by
        rcases s1 with ⟨e, _⟩ | ⟨e, _⟩ | ⟨_, h⟩
        · rw [h1] at e; cases e
        · rw [h1] at e; cases e
        · exact h
      have k2 : lowF c d ∧ (0 ≤ c ∧ c ≤ 1000000) ∧ d ≤ 1000000 := by
        rcases s2 with ⟨e, _⟩ | ⟨e, _⟩ | ⟨_, h⟩
        · rw [h2] at e; cases e
        · rw [h2] at e; cases e
        · exact h
      by_cases h3 : a = 0
      · have eN : marN a b c d = 0 := if_neg (fun h => h.2.2 h3)
        have eE : marE a b c d = 11 := by unfold marE; rw [if_pos h1, if_pos h2, if_pos h3]
        rw [eN, eE]
        have H1 := hide h1
        have H2 := hide h2
        have b0 : ((a : Int) == 0) = true := by rw [beq_iff_eq]; exact h3
        clear eN eE h1 h2 s1 s2 k1 k2 h3
        have j0 : ∀ w, (Instr.index 88 (.agg #[.int .i64 a, .int .i64 b, .int .i64 c, .int .i64 d]) (.int .i64 0)).run Try.prog w = .ok (.agg #[.int .i64 a, .int .i64 b]) w := fun _ => by kernel_rfl
        have j1 : ∀ w, (Instr.index 88 (.agg #[.int .i64 a, .int .i64 b, .int .i64 c, .int .i64 d]) (.int .i64 1)).run Try.prog w = .ok (.agg #[.int .i64 c, .int .i64 d]) w := fun _ => by kernel_rfl
        have L0 := hide (Lv.start w)
        go_enter Try.func63, Try.ntmps63
        go_wp2
        refine wp_loop_rounds 3 ?_
        rw [rounds_succ]
        go_wp2_with fail
        refine Lv.call (plShare_any a b _ ha hb) (((L0.out.put _ _).put _ _).put _ _) ?_
        intro w1 L1'
        have L1 := hide L1'
        have F1 := L1'.at
        clear L1'
        simp only [AllAt, CellsAt, updL, List.map, Nat.zero_add, Nat.reduceAdd, and_true, World.size_alloc, World.heap_drewN, heap_drew, size_set, Nat.add_eq_left, Nat.left_eq_add, Nat.add_right_cancel_iff, ne_up2, ne_dn2, ne_up3, ne_dn3, ne_up4, ne_dn4, Nat.reduceEqDiff, Nat.one_ne_zero, Nat.succ_ne_zero, Nat.zero_ne_one, reduceIte, List.set_cons_zero, List.set_cons_succ] at F1
        rw [H1.out]
        go_wp2
        rw [rounds_succ]
        go_wp2_with fail
        refine Lv.call (plShare_any c d _ hc hd) (L1.out.put _ _) ?_
        intro w2 L2'
        have L2 := hide L2'
        have F2 := L2'.at
        clear L2' F1
        simp only [AllAt, CellsAt, updL, List.map, Nat.zero_add, Nat.reduceAdd, and_true, World.size_alloc, World.heap_drewN, heap_drew, size_set, Nat.add_eq_left, Nat.left_eq_add, Nat.add_right_cancel_iff, ne_up2, ne_dn2, ne_up3, ne_dn3, ne_up4, ne_dn4, Nat.reduceEqDiff, Nat.one_ne_zero, Nat.succ_ne_zero, Nat.zero_ne_one, reduceIte, List.set_cons_zero, List.set_cons_succ] at F2
        rw [H2.out]
        go_wp2
        rw [rounds_succ]
        go_wp2
        go_ret2
        refine ⟨rfl, ?_⟩
        repeat (first | (with_reducible exact L2.out.below) | refine Below.setCell ?_ (by first | omega | (simp; done) | (simp; omega)) _ | refine Below.alloc ?_ (by first | omega | (simp; done) | (simp; omega)) _ | refine below_drewN ?_ _ | refine Below.drew ?_)
      · have eN : marN a b c d = (1000 * c * b) / (d * a) := if_pos ⟨h1, h2, h3⟩
        have eE : marE a b c d = 0 := by unfold marE; rw [if_pos h1, if_pos h2, if_neg h3]
        rw [eN, eE]
        have H1 := hide h1
        have H2 := hide h2
        obtain ⟨m1, m2⟩ := mar_in k1 k2 h3
        have CD := hide (fun W => plDown_any (1000 * c * b) (d * a) W (by omega) (by omega) (by omega) (by omega))
        have b0 : ((a : Int) == 0) = false := by rw [beq_eq_false_iff_ne]; exact h3
        have a1 : 0 ≤ a ∧ a ≤ 1000000 := k1.2.1
        have b1 : 1 ≤ b ∧ b ≤ 1000000 := ⟨k1.1.1, k1.2.2⟩
        have c1 : 0 ≤ c ∧ c ≤ 1000000 := k2.2.1
        have d1 : 1 ≤ d ∧ d ≤ 1000000 := ⟨k2.1.1, k2.2.2⟩
        clear eN eE h1 h2 s1 s2 k1 k2 h3
        have j0 : ∀ w, (Instr.index 88 (.agg #[.int .i64 a, .int .i64 b, .int .i64 c, .int .i64 d]) (.int .i64 0)).run Try.prog w = .ok (.agg #[.int .i64 a, .int .i64 b]) w := fun _ => by kernel_rfl
        have j1 : ∀ w, (Instr.index 88 (.agg #[.int .i64 a, .int .i64 b, .int .i64 c, .int .i64 d]) (.int .i64 1)).run Try.prog w = .ok (.agg #[.int .i64 c, .int .i64 d]) w := fun _ => by kernel_rfl
        have L0 := hide (Lv.start w)
        go_enter Try.func63, Try.ntmps63
        go_wp2
        refine wp_loop_rounds 3 ?_
        rw [rounds_succ]
        go_wp2_with fail
        refine Lv.call (plShare_any a b _ ha hb) (((L0.out.put _ _).put _ _).put _ _) ?_
        intro w1 L1'
        have L1 := hide L1'
        have F1 := L1'.at
        clear L1'
        simp only [AllAt, CellsAt, updL, List.map, Nat.zero_add, Nat.reduceAdd, and_true, World.size_alloc, World.heap_drewN, heap_drew, size_set, Nat.add_eq_left, Nat.left_eq_add, Nat.add_right_cancel_iff, ne_up2, ne_dn2, ne_up3, ne_dn3, ne_up4, ne_dn4, Nat.reduceEqDiff, Nat.one_ne_zero, Nat.succ_ne_zero, Nat.zero_ne_one, reduceIte, List.set_cons_zero, List.set_cons_succ] at F1
        rw [H1.out]
        go_wp2
        rw [rounds_succ]
        go_wp2_with fail
        refine Lv.call (plShare_any c d _ hc hd) (L1.out.put _ _) ?_
        intro w2 L2'
        have L2 := hide L2'
        have F2 := L2'.at
        clear L2' F1
        simp only [AllAt, CellsAt, updL, List.map, Nat.zero_add, Nat.reduceAdd, and_true, World.size_alloc, World.heap_drewN, heap_drew, size_set, Nat.add_eq_left, Nat.left_eq_add, Nat.add_right_cancel_iff, ne_up2, ne_dn2, ne_up3, ne_dn3, ne_up4, ne_dn4, Nat.reduceEqDiff, Nat.one_ne_zero, Nat.succ_ne_zero, Nat.zero_ne_one, reduceIte, List.set_cons_zero, List.set_cons_succ] at F2
        rw [H2.out]
        go_wp2
        rw [rounds_succ]
        go_wp2_with fail
        refine Lv.same (CD.out _) ?_
        go_wp2
        go_ret2
        refine ⟨rfl, ?_⟩
        repeat (first | (with_reducible exact L2.out.below) | refine Below.setCell ?_ (by first | omega | (simp; done) | (simp; omega)) _ | refine Below.alloc ?_ (by first | omega | (simp; done) | (simp; omega)) _ | refine below_drewN ?_ _ | refine Below.drew ?_)
    · have eN : marN a b c d = 0 := if_neg (fun h => h2 h.2.1)
      have eE : marE a b c d = shareE c d := by unfold marE; rw [if_pos h1, if_neg h2]
      rw [eN, eE]
      have H1 := hide h1
      have hb0 : (shareE c d != 0) = true := by rw [bne_iff_ne]; exact h2
      clear eN eE h1 h2
      obtain ⟨f, hf⟩ : ∃ f, f = shareE c d := ⟨_, rfl⟩
      have C2 := hide (fun W => plShare_any c d W hc hd)
      rw [← hf] at C2 hb0 ⊢
      clear hf
      have j0 : ∀ w, (Instr.index 88 (.agg #[.int .i64 a, .int .i64 b, .int .i64 c, .int .i64 d]) (.int .i64 0)).run Try.prog w = .ok (.agg #[.int .i64 a, .int .i64 b]) w := fun _ => by kernel_rfl
      have j1 : ∀ w, (Instr.index 88 (.agg #[.int .i64 a, .int .i64 b, .int .i64 c, .int .i64 d]) (.int .i64 1)).run Try.prog w = .ok (.agg #[.int .i64 c, .int .i64 d]) w := fun _ => by kernel_rfl
      have L0 := hide (Lv.start w)
      go_enter Try.func63, Try.ntmps63
      go_wp2
      refine wp_loop_rounds 3 ?_
      rw [rounds_succ]
      go_wp2_with fail
      refine Lv.call (plShare_any a b _ ha hb) (((L0.out.put _ _).put _ _).put _ _) ?_
      intro w1 L1'
      have L1 := hide L1'
      have F1 := L1'.at
      clear L1'
      simp only [AllAt, CellsAt, updL, List.map, Nat.zero_add, Nat.reduceAdd, and_true, World.size_alloc, World.heap_drewN, heap_drew, size_set, Nat.add_eq_left, Nat.left_eq_add, Nat.add_right_cancel_iff, ne_up2, ne_dn2, ne_up3, ne_dn3, ne_up4, ne_dn4, Nat.reduceEqDiff, Nat.one_ne_zero, Nat.succ_ne_zero, Nat.zero_ne_one, reduceIte, List.set_cons_zero, List.set_cons_succ] at F1
      rw [H1.out]
      go_wp2
      rw [rounds_succ]
      go_wp2_with fail
      refine Lv.call (C2.out _) (L1.out.put _ _) ?_
      intro w2 L2'
      have L2 := hide L2'
      have F2 := L2'.at
      clear L2' F1
      simp only [AllAt, CellsAt, updL, List.map, Nat.zero_add, Nat.reduceAdd, and_true, World.size_alloc, World.heap_drewN, heap_drew, size_set, Nat.add_eq_left, Nat.left_eq_add, Nat.add_right_cancel_iff, ne_up2, ne_dn2, ne_up3, ne_dn3, ne_up4, ne_dn4, Nat.reduceEqDiff, Nat.one_ne_zero, Nat.succ_ne_zero, Nat.zero_ne_one, reduceIte, List.set_cons_zero, List.set_cons_succ] at F2
      go_wp2
      go_ret2
      refine ⟨rfl, ?_⟩
      repeat (first | (with_reducible exact L2.out.below) | refine Below.setCell ?_ (by first | omega | (simp; done) | (simp; omega)) _ | refine Below.alloc ?_ (by first | omega | (simp; done) | (simp; omega)) _ | refine below_drewN ?_ _ | refine Below.drew ?_)
  · have eN : marN a b c d = 0 := if_neg (fun h => h1 h.1)
    have eE : marE a b c d = shareE a b := by unfold marE; rw [if_neg h1]
    rw [eN, eE]
    have hb0 : (shareE a b != 0) = true := by rw [bne_iff_ne]; exact h1
    clear eN eE h1
    obtain ⟨f, hf⟩ : ∃ f, f = shareE a b := ⟨_, rfl⟩
    have C1 := hide (fun W => plShare_any a b W ha hb)
    rw [← hf] at C1 hb0 ⊢
    clear hf
    have j0 : ∀ w, (Instr.index 88 (.agg #[.int .i64 a, .int .i64 b, .int .i64 c, .int .i64 d]) (.int .i64 0)).run Try.prog w = .ok (.agg #[.int .i64 a, .int .i64 b]) w := fun _ => by kernel_rfl
    have j1 : ∀ w, (Instr.index 88 (.agg #[.int .i64 a, .int .i64 b, .int .i64 c, .int .i64 d]) (.int .i64 1)).run Try.prog w = .ok (.agg #[.int .i64 c, .int .i64 d]) w := fun _ => by kernel_rfl
    have L0 := hide (Lv.start w)
    go_enter Try.func63, Try.ntmps63
    go_wp2
    refine wp_loop_rounds 3 ?_
    rw [rounds_succ]
    go_wp2_with fail
    refine Lv.call (C1.out _) (((L0.out.put _ _).put _ _).put _ _) ?_
    intro w1 L1'
    have L1 := hide L1'
    have F1 := L1'.at
    clear L1'
    simp only [AllAt, CellsAt, updL, List.map, Nat.zero_add, Nat.reduceAdd, and_true, World.size_alloc, World.heap_drewN, heap_drew, size_set, Nat.add_eq_left, Nat.left_eq_add, Nat.add_right_cancel_iff, ne_up2, ne_dn2, ne_up3, ne_dn3, ne_up4, ne_dn4, Nat.reduceEqDiff, Nat.one_ne_zero, Nat.succ_ne_zero, Nat.zero_ne_one, reduceIte, List.set_cons_zero, List.set_cons_succ] at F1
    go_wp2
    go_ret2
    refine ⟨rfl, ?_⟩
    repeat (first | (with_reducible exact L1.out.below) | refine Below.setCell ?_ (by first | omega | (simp; done) | (simp; omega)) _ | refine Below.alloc ?_ (by first | omega | (simp; done) | (simp; omega)) _ | refine below_drewN ?_ _ | refine Below.drew ?_)
end Go.Proofs.Ytdhbjklbgdnfmaa
