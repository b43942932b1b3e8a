/- PROVED HERE: Rows.NumberLineChecksSaid: agraffelaw01.NumberLineChecks returns true for every input, and its arguments read behind the call as before. -/
import Derived.Test.YtnilfacofikoaaaFlat
import Derived.Test.YtnilfacofikoaaaAwake
import Derived.Test.YtnilfacofikoaaaRefLineC
namespace Go.Proofs.Ytnilfacofikoaaa
open Go.ChangeShapes Go.WideShapes Go.ChangeAt Go.RowKit Go.Joins
set_option linter.unusedVariables false
set_option linter.unusedSimpArgs false

theorem Dots.up {w : World} {B B' : Nat} {A : Option Addr} {ds : List (Int × Int)} (h : Dots w B A ds) (hB : B ≤ B') : Dots w B' A ds := fun h0 => by
  obtain ⟨b, off, e, hb, hc⟩ := h h0
  exact ⟨b, off, e, Nat.lt_of_lt_of_le hb hB, hc⟩
/-- The error of the dots, of the fractions, of the line. -/
def linesErr (ds : List (Int × Int)) (a b c d e f p q r : Int) : Int := if dotsErr ds ≠ 0 then dotsErr ds else if fracsTo (fr3 a b c d e f) 3 ≠ 0 then fracsTo (fr3 a b c d e f) 3 else lineE ds a b c d e f p q r
theorem checkLine_all (A : Option Addr) (n cap : Nat) (ds : List (Int × Int)) (a b' c d e f p q r : Int) (w : World) (hn : ds.length = n) (hD : Dots w w.heap.size A ds) (h1 : in64 a ∧ in64 b') (h2 : in64 c ∧ in64 d) (h3 : in64 e ∧ in64 f) :
    Calls Try.prog 27 #[.slice A n cap, .agg #[.int .i64 a, .int .i64 b', .int .i64 c, .int .i64 d, .int .i64 e, .int .i64 f, .int .i64 p, .int .i64 q, .int .i64 r]] w fun x w' => x = .returned (.int .i64 (linesErr ds a b' c d e f p q r)) ∧ Below w.heap.size w w' := by
  unfold linesErr
  by_cases hE : dotsErr ds = 0
  · rw [if_neg (fun h => h hE)]
    by_cases hF : fracsTo (fr3 a b' c d e f) 3 = 0
    · rw [if_neg (fun h => h hF)]
      exact checkLine_ok A n cap ds a b' c d e f p q r w hn hD hE hF h1 h2 h3
    · rw [if_pos hF]
      exact checkLine_badf A n cap ds a b' c d e f p q r _ w hn hD hE h1 h2 h3 rfl hF
  · rw [if_pos hE]
    exact checkLine_badd A n cap ds a b' c d e f p q r _ w hn hD rfl hE
def errTo (ds fs : List (Int × Int)) (k : Nat) : Int := if dotsErr ds = 0 then fracsTo fs k else dotsErr ds
theorem errTo_stay {ds fs : List (Int × Int)} {k : Nat} (h : errTo ds fs k ≠ 0) : errTo ds fs (k + 1) = errTo ds fs k := by
  unfold errTo at h ⊢
  split
  · rename_i h1
    rw [if_pos h1] at h
    rw [fracsTo, if_neg h]
  · rfl
theorem errTo_go {ds fs : List (Int × Int)} {k : Nat} (h : errTo ds fs k = 0) : errTo ds fs (k + 1) = fracErr (fN fs k) (fD fs k) := by
  unfold errTo at h ⊢
  split
  · rename_i h1
    rw [if_pos h1] at h
    rw [fracsTo, if_pos h]
  · rename_i h1
    rw [if_neg h1] at h
    exact absurd h h1
set_option maxHeartbeats 4000000 in
set_option maxRecDepth 100000 in
theorem numberLineChecks_walk (A : Option Addr) (n cap : Nat) (ds : List (Int × Int)) (a b' c d e f p q r : Int) (w : World) (hn : ds.length = n) (hD : Dots w w.heap.size A ds)
    (ha : -9223372036854775808 ≤ a ∧ a ≤ 9223372036854775807) (hb : -9223372036854775808 ≤ b' ∧ b' ≤ 9223372036854775807) (hc : -9223372036854775808 ≤ c ∧ c ≤ 9223372036854775807) (hd : -9223372036854775808 ≤ d ∧ d ≤ 9223372036854775807) (he : -9223372036854775808 ≤ e ∧ e ≤ 9223372036854775807) (hf : -9223372036854775808 ≤ f ∧ f ≤ 9223372036854775807) (hp : -9223372036854775808 ≤ p ∧ p ≤ 9223372036854775807) (hq : -9223372036854775808 ≤ q ∧ q ≤ 9223372036854775807) (hr : -9223372036854775808 ≤ r ∧ r ≤ 9223372036854775807) :
    Calls Try.prog 6 #[.slice A n cap, .agg #[.int .i64 a, .int .i64 b', .int .i64 c, .int .i64 d, .int .i64 e, .int .i64 f, .int .i64 p, .int .i64 q, .int .i64 r]] w fun x w' => x = .returned (.bool true) ∧ Below w.heap.size w w' := by
  have HN := hide hn
  have HD := hide hD
  have C1 := hide (fun W hW => checkLine_all A n cap ds a b' c d e f p q r W hn hW ⟨ha, hb⟩ ⟨hc, hd⟩ ⟨he, hf⟩)
  have HL : Hid (linesErr ds a b' c d e f p q r = if errTo ds (fr3 a b' c d e f) 3 = 0 then lineE ds a b' c d e f p q r else errTo ds (fr3 a b' c d e f) 3) := by
    show _ = _
    unfold linesErr errTo
    by_cases h1 : dotsErr ds = 0
    · rw [if_neg (fun h => h h1), if_pos h1]
      by_cases h2 : fracsTo (fr3 a b' c d e f) 3 = 0
      · rw [if_neg (fun h => h h2), if_pos h2]
      · rw [if_pos h2, if_neg h2]
    · rw [if_pos h1, if_neg h1, if_neg h1]
  clear hn hD hp hq hr
  have q0 : ∀ w : World, (Instr.index 63 (.agg #[.int .i64 a, .int .i64 b', .int .i64 c, .int .i64 d, .int .i64 e, .int .i64 f]) (.int .i64 0)).run Try.prog w = .ok (.agg #[.int .i64 a, .int .i64 b']) w := fun _ => by kernel_rfl
  have q1 : ∀ w : World, (Instr.index 63 (.agg #[.int .i64 a, .int .i64 b', .int .i64 c, .int .i64 d, .int .i64 e, .int .i64 f]) (.int .i64 1)).run Try.prog w = .ok (.agg #[.int .i64 c, .int .i64 d]) w := fun _ => by kernel_rfl
  have q2 : ∀ w : World, (Instr.index 63 (.agg #[.int .i64 a, .int .i64 b', .int .i64 c, .int .i64 d, .int .i64 e, .int .i64 f]) (.int .i64 2)).run Try.prog w = .ok (.agg #[.int .i64 e, .int .i64 f]) w := fun _ => by kernel_rfl
  by_cases hg1 : (12 : Int) < (n : Int) ∧ (n : Int) ≤ 60
  · obtain ⟨g1, g2⟩ := hg1
    have L0 := hide (Lv.start w)
    go_enter Try.func6, Try.ntmps6
    go_wp2_with fail
    refine Lv.call (awake_any _) (L0.out.put _ _) ?_
    intro w2 L2'
    have L2 := hide L2'
    have F2 := L2'.at
    clear L2'
    simp only [AllAt, CellsAt, updL, List.map, Nat.zero_add, Nat.reduceAdd, and_true, World.size_alloc, World.heap_drewN, heap_drew, size_set, Nat.add_eq_left, Nat.left_eq_add, Nat.add_right_cancel_iff, ne_up2, ne_dn2, ne_up3, ne_dn3, ne_up4, ne_dn4, Nat.reduceEqDiff, Nat.one_ne_zero, Nat.succ_ne_zero, Nat.zero_ne_one, reduceIte, List.set_cons_zero, List.set_cons_succ] at F2
    go_wp2
    go_ret
    refine ⟨rfl, ?_⟩
    repeat (first | (with_reducible exact L2.out.below) | refine Below.setCell ?_ (by first | omega | (simp; done) | (simp; omega)) _ | refine Below.alloc ?_ (by first | omega | (simp; done) | (simp; omega)) _ | refine below_drewN ?_ _ | refine Below.drew ?_)
  · by_cases hg2 : (70 : Int) < (n : Int)
    · have g1 : (12 : Int) < (n : Int) := by omega
      have g2 : ¬ (n : Int) ≤ 60 := by omega
      clear hg1
      have L0 := hide (Lv.start w)
      go_enter Try.func6, Try.ntmps6
      go_wp2_with fail
      refine Lv.call (awake_any _) (L0.out.put _ _) ?_
      intro w2 L2'
      have L2 := hide L2'
      have F2 := L2'.at
      clear L2'
      simp only [AllAt, CellsAt, updL, List.map, Nat.zero_add, Nat.reduceAdd, and_true, World.size_alloc, World.heap_drewN, heap_drew, size_set, Nat.add_eq_left, Nat.left_eq_add, Nat.add_right_cancel_iff, ne_up2, ne_dn2, ne_up3, ne_dn3, ne_up4, ne_dn4, Nat.reduceEqDiff, Nat.one_ne_zero, Nat.succ_ne_zero, Nat.zero_ne_one, reduceIte, List.set_cons_zero, List.set_cons_succ] at F2
      go_wp2
      go_ret
      refine ⟨rfl, ?_⟩
      repeat (first | (with_reducible exact L2.out.below) | refine Below.setCell ?_ (by first | omega | (simp; done) | (simp; omega)) _ | refine Below.alloc ?_ (by first | omega | (simp; done) | (simp; omega)) _ | refine below_drewN ?_ _ | refine Below.drew ?_)
    · have hg3 : (¬ (12 : Int) < (n : Int)) ∨ ((12 : Int) < (n : Int) ∧ ¬ (n : Int) ≤ 60) := by omega
      clear hg1
      rcases hg3 with g1 | ⟨g1, g2⟩
      all_goals
        have L0 := hide (Lv.start w)
        go_enter Try.func6, Try.ntmps6
        go_wp2_with fail
        refine Lv.call (awake_any _) (L0.out.put _ _) ?_
        intro w2 L2'
        have L2 := hide L2'
        have F2 := L2'.at
        clear L2'
        simp only [AllAt, CellsAt, updL, List.map, Nat.zero_add, Nat.reduceAdd, and_true, World.size_alloc, World.heap_drewN, heap_drew, size_set, Nat.add_eq_left, Nat.left_eq_add, Nat.add_right_cancel_iff, ne_up2, ne_dn2, ne_up3, ne_dn3, ne_up4, ne_dn4, Nat.reduceEqDiff, Nat.one_ne_zero, Nat.succ_ne_zero, Nat.zero_ne_one, reduceIte, List.set_cons_zero, List.set_cons_succ] at F2
        have D2 : Hid (Dots w2 w2.heap.size A ds) := (HD.out.kept L2.out.below).up L2.out.size
        go_wp2_with fail
        refine Lv.call (C1.out _ D2.out) L2.out ?_
        intro w3 L3'
        have L3 := hide L3'
        have F3 := L3'.at
        clear L3' F2
        simp only [AllAt, CellsAt, updL, List.map, Nat.zero_add, Nat.reduceAdd, and_true, World.size_alloc, World.heap_drewN, heap_drew, size_set, Nat.add_eq_left, Nat.left_eq_add, Nat.add_right_cancel_iff, ne_up2, ne_dn2, ne_up3, ne_dn3, ne_up4, ne_dn4, Nat.reduceEqDiff, Nat.one_ne_zero, Nat.succ_ne_zero, Nat.zero_ne_one, reduceIte, List.set_cons_zero, List.set_cons_succ] at F3
        have D3 : Hid (Dots w3 w3.heap.size A ds) := (HD.out.kept L3.out.below).up L3.out.size
        go_wp2_with fail
        refine Lv.call (refDots_any A n cap ds _ HN.out D3.out) L3.out ?_
        intro w4 L4'
        have L4 := hide L4'
        have F4 := L4'.at
        clear L4' F3 L2
        simp only [AllAt, CellsAt, updL, List.map, Nat.zero_add, Nat.reduceAdd, and_true, World.size_alloc, World.heap_drewN, heap_drew, size_set, Nat.add_eq_left, Nat.left_eq_add, Nat.add_right_cancel_iff, ne_up2, ne_dn2, ne_up3, ne_dn3, ne_up4, ne_dn4, Nat.reduceEqDiff, Nat.one_ne_zero, Nat.succ_ne_zero, Nat.zero_ne_one, reduceIte, List.set_cons_zero, List.set_cons_succ] at F4
        have E0 : Hid (dotsErr ds = errTo ds (fr3 a b' c d e f) 0) := by show _ = _; unfold errTo; split; rename_i h; rw [h]; rfl; rfl
        rw [E0.out]
        clear D2 D3
        go_wp2
        go_loopw [6, 36] (fun s6 i wr => ∃ k : Nat, k ≤ 3 ∧ i = .int .i64 k ∧ s6 = .int .i64 (errTo ds (fr3 a b' c d e f) k) ∧ Hid (Lv w wr [(w.heap.size, 55, [.int .i64 a, .int .i64 b', .int .i64 c, .int .i64 d, .int .i64 e, .int .i64 f, .int .i64 p, .int .i64 q, .int .i64 r])])) (fun _ i _ => 3 - (intOf i).toNat)
        case atStart => exact ⟨0, by omega, rfl, rfl, L4⟩
        case round =>
          obtain ⟨k, hk, rfl, rfl, L1⟩ := hrel
          clear L4 F4
          have hk4 : k = 0 ∨ k = 1 ∨ k = 2 ∨ k = 3 := by omega
          clear hk
          rcases hk4 with rfl | rfl | rfl | rfl
          · by_cases h0 : errTo ds (fr3 a b' c d e f) 0 = 0
            · have HS : Hid (errTo ds (fr3 a b' c d e f) (0 + 1) = fracErr a b') := hide (errTo_go h0)
              rw [h0]
              clear h0
              have F1 := L1.out.at
              simp only [AllAt, CellsAt, updL, List.map, Nat.zero_add, Nat.reduceAdd, and_true, World.size_alloc, World.heap_drewN, heap_drew, size_set, Nat.add_eq_left, Nat.left_eq_add, Nat.add_right_cancel_iff, ne_up2, ne_dn2, ne_up3, ne_dn3, ne_up4, ne_dn4, Nat.reduceEqDiff, Nat.one_ne_zero, Nat.succ_ne_zero, Nat.zero_ne_one, reduceIte, List.set_cons_zero, List.set_cons_succ] at F1
              go_wp2_with fail
              refine Lv.call (refCheckFrac_any a b' _ ha hb) (L1.out.put _ _) ?_
              intro w8 L8'
              have L8 := hide L8'
              have F8 := L8'.at
              clear L8' F1
              simp only [AllAt, CellsAt, updL, List.map, Nat.zero_add, Nat.reduceAdd, and_true, World.size_alloc, World.heap_drewN, heap_drew, size_set, Nat.add_eq_left, Nat.left_eq_add, Nat.add_right_cancel_iff, ne_up2, ne_dn2, ne_up3, ne_dn3, ne_up4, ne_dn4, Nat.reduceEqDiff, Nat.one_ne_zero, Nat.succ_ne_zero, Nat.zero_ne_one, reduceIte, List.set_cons_zero, List.set_cons_succ] at F8
              go_wp2
              go_roundw
              case rel => exact ⟨0 + 1, by omega, by go_num, by rw [HS.out], hide (L8.out.of (by simp))⟩
              case measure => simp [intOf]
            · have HS : Hid (errTo ds (fr3 a b' c d e f) (0 + 1) = errTo ds (fr3 a b' c d e f) 0) := hide (errTo_stay h0)
              have hne : ((errTo ds (fr3 a b' c d e f) 0 : Int) == 0) = false := by rw [beq_eq_false_iff_ne]; exact h0
              clear h0
              have F1 := L1.out.at
              simp only [AllAt, CellsAt, updL, List.map, Nat.zero_add, Nat.reduceAdd, and_true, World.size_alloc, World.heap_drewN, heap_drew, size_set, Nat.add_eq_left, Nat.left_eq_add, Nat.add_right_cancel_iff, ne_up2, ne_dn2, ne_up3, ne_dn3, ne_up4, ne_dn4, Nat.reduceEqDiff, Nat.one_ne_zero, Nat.succ_ne_zero, Nat.zero_ne_one, reduceIte, List.set_cons_zero, List.set_cons_succ] at F1
              go_wp2
              go_roundw
              case rel => exact ⟨0 + 1, by omega, by go_num, by rw [HS.out], hide ((L1.out.put _ _).of (by simp))⟩
              case measure => simp [intOf]
          · by_cases h0 : errTo ds (fr3 a b' c d e f) 1 = 0
            · have HS : Hid (errTo ds (fr3 a b' c d e f) (1 + 1) = fracErr c d) := hide (errTo_go h0)
              rw [h0]
              clear h0
              have F1 := L1.out.at
              simp only [AllAt, CellsAt, updL, List.map, Nat.zero_add, Nat.reduceAdd, and_true, World.size_alloc, World.heap_drewN, heap_drew, size_set, Nat.add_eq_left, Nat.left_eq_add, Nat.add_right_cancel_iff, ne_up2, ne_dn2, ne_up3, ne_dn3, ne_up4, ne_dn4, Nat.reduceEqDiff, Nat.one_ne_zero, Nat.succ_ne_zero, Nat.zero_ne_one, reduceIte, List.set_cons_zero, List.set_cons_succ] at F1
              go_wp2_with fail
              refine Lv.call (refCheckFrac_any c d _ hc hd) (L1.out.put _ _) ?_
              intro w8 L8'
              have L8 := hide L8'
              have F8 := L8'.at
              clear L8' F1
              simp only [AllAt, CellsAt, updL, List.map, Nat.zero_add, Nat.reduceAdd, and_true, World.size_alloc, World.heap_drewN, heap_drew, size_set, Nat.add_eq_left, Nat.left_eq_add, Nat.add_right_cancel_iff, ne_up2, ne_dn2, ne_up3, ne_dn3, ne_up4, ne_dn4, Nat.reduceEqDiff, Nat.one_ne_zero, Nat.succ_ne_zero, Nat.zero_ne_one, reduceIte, List.set_cons_zero, List.set_cons_succ] at F8
              go_wp2
              go_roundw
              case rel => exact ⟨1 + 1, by omega, by go_num, by rw [HS.out], hide (L8.out.of (by simp))⟩
              case measure => simp [intOf]
            · have HS : Hid (errTo ds (fr3 a b' c d e f) (1 + 1) = errTo ds (fr3 a b' c d e f) 1) := hide (errTo_stay h0)
              have hne : ((errTo ds (fr3 a b' c d e f) 1 : Int) == 0) = false := by rw [beq_eq_false_iff_ne]; exact h0
              clear h0
              have F1 := L1.out.at
              simp only [AllAt, CellsAt, updL, List.map, Nat.zero_add, Nat.reduceAdd, and_true, World.size_alloc, World.heap_drewN, heap_drew, size_set, Nat.add_eq_left, Nat.left_eq_add, Nat.add_right_cancel_iff, ne_up2, ne_dn2, ne_up3, ne_dn3, ne_up4, ne_dn4, Nat.reduceEqDiff, Nat.one_ne_zero, Nat.succ_ne_zero, Nat.zero_ne_one, reduceIte, List.set_cons_zero, List.set_cons_succ] at F1
              go_wp2
              go_roundw
              case rel => exact ⟨1 + 1, by omega, by go_num, by rw [HS.out], hide ((L1.out.put _ _).of (by simp))⟩
              case measure => simp [intOf]
          · by_cases h0 : errTo ds (fr3 a b' c d e f) 2 = 0
            · have HS : Hid (errTo ds (fr3 a b' c d e f) (2 + 1) = fracErr e f) := hide (errTo_go h0)
              rw [h0]
              clear h0
              have F1 := L1.out.at
              simp only [AllAt, CellsAt, updL, List.map, Nat.zero_add, Nat.reduceAdd, and_true, World.size_alloc, World.heap_drewN, heap_drew, size_set, Nat.add_eq_left, Nat.left_eq_add, Nat.add_right_cancel_iff, ne_up2, ne_dn2, ne_up3, ne_dn3, ne_up4, ne_dn4, Nat.reduceEqDiff, Nat.one_ne_zero, Nat.succ_ne_zero, Nat.zero_ne_one, reduceIte, List.set_cons_zero, List.set_cons_succ] at F1
              go_wp2_with fail
              refine Lv.call (refCheckFrac_any e f _ he hf) (L1.out.put _ _) ?_
              intro w8 L8'
              have L8 := hide L8'
              have F8 := L8'.at
              clear L8' F1
              simp only [AllAt, CellsAt, updL, List.map, Nat.zero_add, Nat.reduceAdd, and_true, World.size_alloc, World.heap_drewN, heap_drew, size_set, Nat.add_eq_left, Nat.left_eq_add, Nat.add_right_cancel_iff, ne_up2, ne_dn2, ne_up3, ne_dn3, ne_up4, ne_dn4, Nat.reduceEqDiff, Nat.one_ne_zero, Nat.succ_ne_zero, Nat.zero_ne_one, reduceIte, List.set_cons_zero, List.set_cons_succ] at F8
              go_wp2
              go_roundw
              case rel => exact ⟨2 + 1, by omega, by go_num, by rw [HS.out], hide (L8.out.of (by simp))⟩
              case measure => simp [intOf]
            · have HS : Hid (errTo ds (fr3 a b' c d e f) (2 + 1) = errTo ds (fr3 a b' c d e f) 2) := hide (errTo_stay h0)
              have hne : ((errTo ds (fr3 a b' c d e f) 2 : Int) == 0) = false := by rw [beq_eq_false_iff_ne]; exact h0
              clear h0
              have F1 := L1.out.at
              simp only [AllAt, CellsAt, updL, List.map, Nat.zero_add, Nat.reduceAdd, and_true, World.size_alloc, World.heap_drewN, heap_drew, size_set, Nat.add_eq_left, Nat.left_eq_add, Nat.add_right_cancel_iff, ne_up2, ne_dn2, ne_up3, ne_dn3, ne_up4, ne_dn4, Nat.reduceEqDiff, Nat.one_ne_zero, Nat.succ_ne_zero, Nat.zero_ne_one, reduceIte, List.set_cons_zero, List.set_cons_succ] at F1
              go_wp2
              go_roundw
              case rel => exact ⟨2 + 1, by omega, by go_num, by rw [HS.out], hide ((L1.out.put _ _).of (by simp))⟩
              case measure => simp [intOf]
          · have F1 := L1.out.at
            simp only [AllAt, CellsAt, updL, List.map, Nat.zero_add, Nat.reduceAdd, and_true, World.size_alloc, World.heap_drewN, heap_drew, size_set, Nat.add_eq_left, Nat.left_eq_add, Nat.add_right_cancel_iff, ne_up2, ne_dn2, ne_up3, ne_dn3, ne_up4, ne_dn4, Nat.reduceEqDiff, Nat.one_ne_zero, Nat.succ_ne_zero, Nat.zero_ne_one, reduceIte, List.set_cons_zero, List.set_cons_succ] at F1
            rw [show ((3 : Nat) : Int) = 3 from rfl]
            by_cases h0 : errTo ds (fr3 a b' c d e f) 3 = 0
            · have HL2 : Hid (linesErr ds a b' c d e f p q r = lineE ds a b' c d e f p q r) := HL.out.trans (if_pos h0)
              have hde : dotsErr ds = 0 ∧ fracsTo (fr3 a b' c d e f) 3 = 0 := by
                unfold errTo at h0
                split at h0
                · rename_i h; exact ⟨h, h0⟩
                · rename_i h; exact absurd h0 h
              have C2 := hide (fun W hW => refCheckLine_any A n cap ds a b' c d e f p q r W HN.out hW hde.1 hde.2)
              have D1 : Hid (Dots wr wr.heap.size A ds) := (HD.out.kept L1.out.below).up L1.out.size
              rw [h0, HL2.out]
              clear h0 HL hde
              go_wp2_with fail
              refine Lv.call (C2.out _ D1.out) L1.out ?_
              intro w9 L9'
              have L9 := hide L9'
              have F9 := L9'.at
              clear L9' F1
              simp only [AllAt, CellsAt, updL, List.map, Nat.zero_add, Nat.reduceAdd, and_true, World.size_alloc, World.heap_drewN, heap_drew, size_set, Nat.add_eq_left, Nat.left_eq_add, Nat.add_right_cancel_iff, ne_up2, ne_dn2, ne_up3, ne_dn3, ne_up4, ne_dn4, Nat.reduceEqDiff, Nat.one_ne_zero, Nat.succ_ne_zero, Nat.zero_ne_one, reduceIte, List.set_cons_zero, List.set_cons_succ] at F9
              go_wp2
              go_ret
              refine ⟨rfl, ?_⟩
              repeat (first | (with_reducible exact L9.out.below) | refine Below.setCell ?_ (by first | omega | (simp; done) | (simp; omega)) _ | refine Below.alloc ?_ (by first | omega | (simp; done) | (simp; omega)) _ | refine below_drewN ?_ _ | refine Below.drew ?_)
            · have HL2 : Hid (linesErr ds a b' c d e f p q r = errTo ds (fr3 a b' c d e f) 3) := HL.out.trans (if_neg h0)
              have hne : ((errTo ds (fr3 a b' c d e f) 3 : Int) == 0) = false := by rw [beq_eq_false_iff_ne]; exact h0
              rw [HL2.out]
              clear h0 HL
              go_wp2
              go_ret
              refine ⟨rfl, ?_⟩
              repeat (first | (with_reducible exact L1.out.below) | refine Below.setCell ?_ (by first | omega | (simp; done) | (simp; omega)) _ | refine Below.alloc ?_ (by first | omega | (simp; done) | (simp; omega)) _ | refine below_drewN ?_ _ | refine Below.drew ?_)
set_option maxRecDepth 100000 in
theorem numberLineChecks_lifted (os : Os) (started : os.Started) (H : Type) (enc : TypeId × Value → H) :
    ReturnsInHanded {} Try.checked os 6 .any (Rows.numberLineChecksSpec.pre6 enc Try.prog Try.f6 Rows.numberLineChecksRow.domain false) (Rows.numberLineChecksSpec.post enc Try.prog Try.f6 false true false false) := by
  refine returnsInHanded_of_change (C := Try.checked) (by kernel_rfl) started (by kernel_rfl) Try.func6
    (ChangeSpec.witness6 (enc := enc) (C := Try.checked) false ⟨#[], #[.slice none 0 0, .agg #[.int .i64 0, .int .i64 0, .int .i64 0, .int .i64 0, .int .i64 0, .int .i64 0, .int .i64 0, .int .i64 0, .int .i64 0]], []⟩ 8 (by kernel_rfl) (by kernel_rfl) (by kernel_rfl) (by kernel_rfl)) ?_
  intro W base args ds gs before hval0 hW hcnd _
  have hval : ∀ (j : Nat) t v, Try.f6.params[j]? = some t → args[j]? = some v → Value.okWide Try.prog W .any base t v := hval0
  have hW' := hW
  obtain ⟨p, q, hA0, hV, rfl, hfz, hnd⟩ := hW
  have hA : DataW.TrodAll enc Try.prog W 0 (fun _ => true) true Try.f6.params.toList args.toList ds p := hA0
  rw [Try.params6] at hA hval
  obtain ⟨v0, vs0, d0, ds0, p0, q0, hargs, rfl, rfl, h0, r0⟩ := trodAll_cons hA
  obtain ⟨v1, vs1, d1, ds1, p1, q1, rfl, rfl, rfl, h1, r1⟩ := trodAll_cons r0
  obtain ⟨rfl, rfl, rfl⟩ := trodAll_nil r1
  obtain rfl : args = #[v0, v1] := by cases args; simp_all
  obtain ⟨rfl, rfl⟩ := trodVars_none hV
  obtain ⟨A0_l, n0_l, c0_l, rfl⟩ := okWide_slice Try.underlying52 (hval 0 52 v0 rfl rfl)
  obtain ⟨fu_l, hf_l⟩ := h0
  obtain ⟨A_l, n_l, c_l, hcs_l, hrow_l⟩ := open_rows Try.underlying52 Try.underlying70 (by kernel_rfl) (by kernel_rfl) (by decide) (fun k f hk => by match k, hk with | 0, hk => cases hk; exact Try.underlying3 | 1, hk => cases hk; exact Try.underlying3 | k + 2, hk => simp at hk) hf_l
  simp [Value.cells] at hcs_l
  obtain ⟨rfl, rfl, rfl⟩ := hcs_l
  obtain ⟨ds_l, hn_l, hd_l⟩ : ∃ ds, ds.length = n0_l ∧ Dots W W.heap.size A0_l ds := by
    rcases hrow_l with h0 | ⟨b, off, z, rfl, hb, hz⟩
    · exact ⟨[], h0.symm, fun h => by simp at h⟩
    · refine ⟨(List.range n0_l).map fun i => (z i 0, z i 1), by simp, fun _ => ⟨b, off, rfl, hb, fun i hi => ?_⟩⟩
      have hi' : i < n0_l := by simpa using hi
      have e : ((List.range n0_l).map fun i => (z i 0, z i 1)).getD i (0, 0) = (z i 0, z i 1) := by simp [hi']
      rw [e]
      exact ⟨by simpa using (hz i hi' 0 (by decide)).1, by simpa using (hz i hi' 1 (by decide)).1⟩
  obtain ⟨zs_1, rfl, zl_1, zb_1⟩ := flat_open (k := 6) (n := 9) Try.underlying55 (by kernel_rfl) (by kernel_rfl) (hval 1 55 v1 rfl rfl) h1
  obtain ⟨a, b, c, d, e, f, p, q, r, rfl⟩ := len9 zl_1
  clear hval0
  have hWW := hW'
  refine (numberLineChecks_walk A0_l n0_l c0_l ds_l a b c d e f p q r W hn_l hd_l (zb_1 a (by simp)) (zb_1 b (by simp)) (zb_1 c (by simp)) (zb_1 d (by simp)) (zb_1 e (by simp)) (zb_1 f (by simp)) (zb_1 p (by simp)) (zb_1 q (by simp)) (zb_1 r (by simp))).mono fun e W' ⟨he, hb⟩ => ?_
  subst he
  exact ⟨_, rfl, law_post (pa := p0 ++ (p1 ++ [])) (pv := []) hWW (fun _ _ _ => (trodAll_cons_mk (shut_bool Try.underlying4 _) trodAll_mk0)) (fun sp hsp => args_back (by kernel_rfl) _ _ _ _ (by kernel_rfl) hA0 (fun x hx => hb.same (hWW.lt x (List.mem_append_left _ hx))) (fun x hx => hsp x (List.mem_append_left _ hx))) (fun _ _ => rfl) rfl hb⟩

theorem numberLineChecks_holds : Rows.NumberLineChecksSaid :=
  OpenClaim.holds_of_wide 6 Try.f6 rfl rfl rfl rfl rfl rfl rfl ⟨rfl, rfl, rfl, rfl, rfl⟩ rfl rfl rfl rfl rfl (by kernel_rfl) Try.func6 (by kernel_rfl)
    (of_decide_eq_true (by kernel_rfl)) (by unfold Func.isWrapper; first | (rw [if_pos (by decide +kernel)]; kernel_rfl) | (rw [if_neg (by decide +kernel)]; exact ⟨rfl, rfl⟩))
    (fun os started H enc _ => numberLineChecks_lifted os started H enc)
end Go.Proofs.Ytnilfacofikoaaa
