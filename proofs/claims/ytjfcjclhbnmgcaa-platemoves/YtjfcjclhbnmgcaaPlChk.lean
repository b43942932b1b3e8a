/- Contracts of plate.checkPlace, CheckBearing, rise. -/
import Derived.Test.YtjfcjclhbnmgcaaPlVec
import Derived.BigQuiet
import Derived.Deep.QuietTactic
namespace Go.Proofs.Ytjfcjclhbnmgcaa
open Go.RowKit
set_option linter.unusedVariables false
set_option linter.unusedSimpArgs false

def plE (x y z : Int) : Int := if inV x y z 1000000 = true then 0 else 2
set_option maxHeartbeats 8000000 in
set_option maxRecDepth 100000 in
theorem plPlace_any (x y z : Int) (w : World) :
    Calls Try.prog 68 #[.agg #[.int .i64 x, .int .i64 y, .int .i64 z]] w fun e w' => e = .returned (.int .i64 (plE x y z)) ∧ Below w.heap.size w w' := by
  by_cases hv : inV x y z 1000000 = true
  · have HE : Hid (plE x y z = 0) := if_pos hv
    have HV := hide hv
    clear hv
    rw [HE.out]
    have L0 := hide (Lv.start w)
    go_enter Try.func68, Try.ntmps68
    go_wp2
    (first | (go_region_with (first | (go_at_call 72; refine (plWithin_any _ _).mono ?_; rintro e w' ⟨rfl, rfl⟩) | (go_at_call 71; refine Lv.call (plAll_any x y z 1000000 _ _ (by omega) (by omega) (by first | exact Blk.new _ _ _ _ (by simp) | exact (Blk.new _ _ _ _ (by simp)).drew)) ((L0.out.put _ _).put _ _).drew ?_; intro w1 L1'; have L1 := hide L1'; have F1 := L1'.at; clear L1'; simp only [AllAt, CellsAt, updL, List.map, Nat.zero_add, Nat.reduceAdd, and_true, World.size_alloc, World.heap_drewN, heap_drew, size_set, Nat.add_eq_left, Nat.left_eq_add, Nat.add_right_cancel_iff, ne_up2, ne_dn2, ne_up3, ne_dn3, ne_up4, ne_dn4, Nat.reduceEqDiff, Nat.one_ne_zero, Nat.succ_ne_zero, Nat.zero_ne_one, reduceIte, List.set_cons_zero, List.set_cons_succ] at F1; rw [HV.out]))) | fail)
    all_goals
      go_wp2
      go_ret
      refine ⟨rfl, ?_⟩
      repeat (first | (with_reducible exact L1.out.below) | refine Below.setCell ?_ (by first | omega | (simp; done) | (simp; omega)) _ | refine Below.alloc ?_ (by first | omega | (simp; done) | (simp; omega)) _ | refine below_drewN ?_ _ | refine Below.drew ?_)
  · have HE : Hid (plE x y z = 2) := if_neg hv
    have hv' : inV x y z 1000000 = false := by simpa using hv
    have HV := hide hv'
    clear hv hv'
    rw [HE.out]
    have L0 := hide (Lv.start w)
    go_enter Try.func68, Try.ntmps68
    go_wp2
    (first | (go_region_with (first | (go_at_call 72; refine (plWithin_any _ _).mono ?_; rintro e w' ⟨rfl, rfl⟩) | (go_at_call 71; refine Lv.call (plAll_any x y z 1000000 _ _ (by omega) (by omega) (by first | exact Blk.new _ _ _ _ (by simp) | exact (Blk.new _ _ _ _ (by simp)).drew)) ((L0.out.put _ _).put _ _).drew ?_; intro w1 L1'; have L1 := hide L1'; have F1 := L1'.at; clear L1'; simp only [AllAt, CellsAt, updL, List.map, Nat.zero_add, Nat.reduceAdd, and_true, World.size_alloc, World.heap_drewN, heap_drew, size_set, Nat.add_eq_left, Nat.left_eq_add, Nat.add_right_cancel_iff, ne_up2, ne_dn2, ne_up3, ne_dn3, ne_up4, ne_dn4, Nat.reduceEqDiff, Nat.one_ne_zero, Nat.succ_ne_zero, Nat.zero_ne_one, reduceIte, List.set_cons_zero, List.set_cons_succ] at F1; rw [HV.out]))) | fail)
    all_goals
      go_wp2
      go_ret
      refine ⟨rfl, ?_⟩
      repeat (first | (with_reducible exact L1.out.below) | refine Below.setCell ?_ (by first | omega | (simp; done) | (simp; omega)) _ | refine Below.alloc ?_ (by first | omega | (simp; done) | (simp; omega)) _ | refine below_drewN ?_ _ | refine Below.drew ?_)

/-- Is it a right bearing? -/
def brgB (f b k a h : Int) : Bool := inV f b k 10000 && decide ((1 ≤ a ∧ a ≤ 300000) ∧ (1 ≤ h ∧ h ≤ 300000))
def brgE (f b k a h : Int) : Int := if brgB f b k a h = true then 0 else 2
set_option maxHeartbeats 8000000 in
set_option maxRecDepth 100000 in
theorem plBearing_any (f b k a h : Int) (w : World) :
    Calls Try.prog 90 #[.agg #[.int .i64 f, .int .i64 b, .int .i64 k, .int .i64 a, .int .i64 h]] w fun e w' => e = .returned (.int .i64 (brgE f b k a h)) ∧ Below w.heap.size w w' := by
  by_cases hv : inV f b k 10000 = true
  · have HV := hide hv
    by_cases h1 : a < 1
    · have HE : Hid (brgE f b k a h = 2) := if_neg (by unfold brgB; rw [hv]; simp; omega)
      have g1 : decide (a < 1) = true := decide_eq_true h1
      clear hv
      rw [HE.out]
      have L0 := hide (Lv.start w)
      go_enter Try.func90, Try.ntmps90
      go_wp2
      (first | (go_region_with (first | (go_at_call 72; refine (plWithin_any _ _).mono ?_; rintro e w' ⟨rfl, rfl⟩) | (go_at_call 71; refine Lv.call (plAll_any f b k 10000 _ _ (by omega) (by omega) (by first | exact Blk.new _ _ _ _ (by simp) | exact (Blk.new _ _ _ _ (by simp)).drew)) (((L0.out.put _ _).put _ _).put _ _).drew ?_; intro w1 L1'; have L1 := hide L1'; have F1 := L1'.at; clear L1'; simp only [AllAt, CellsAt, updL, List.map, Nat.zero_add, Nat.reduceAdd, and_true, World.size_alloc, World.heap_drewN, heap_drew, size_set, Nat.add_eq_left, Nat.left_eq_add, Nat.add_right_cancel_iff, ne_up2, ne_dn2, ne_up3, ne_dn3, ne_up4, ne_dn4, Nat.reduceEqDiff, Nat.one_ne_zero, Nat.succ_ne_zero, Nat.zero_ne_one, reduceIte, List.set_cons_zero, List.set_cons_succ] at F1; rw [HV.out]))) | fail)
      all_goals
        go_wp2
        go_ret
        refine ⟨rfl, ?_⟩
        repeat (first | (with_reducible exact L1.out.below) | refine Below.setCell ?_ (by first | omega | (simp; done) | (simp; omega)) _ | refine Below.alloc ?_ (by first | omega | (simp; done) | (simp; omega)) _ | refine below_drewN ?_ _ | refine Below.drew ?_)
    · have g1 : decide (a < 1) = false := decide_eq_false h1
      by_cases h2 : 300000 < a
      · have HE : Hid (brgE f b k a h = 2) := if_neg (by unfold brgB; rw [hv]; simp; omega)
        have g2 : decide (300000 < a) = true := decide_eq_true h2
        clear hv
        rw [HE.out]
        have L0 := hide (Lv.start w)
        go_enter Try.func90, Try.ntmps90
        go_wp2
        (first | (go_region_with (first | (go_at_call 72; refine (plWithin_any _ _).mono ?_; rintro e w' ⟨rfl, rfl⟩) | (go_at_call 71; refine Lv.call (plAll_any f b k 10000 _ _ (by omega) (by omega) (by first | exact Blk.new _ _ _ _ (by simp) | exact (Blk.new _ _ _ _ (by simp)).drew)) (((L0.out.put _ _).put _ _).put _ _).drew ?_; intro w1 L1'; have L1 := hide L1'; have F1 := L1'.at; clear L1'; simp only [AllAt, CellsAt, updL, List.map, Nat.zero_add, Nat.reduceAdd, and_true, World.size_alloc, World.heap_drewN, heap_drew, size_set, Nat.add_eq_left, Nat.left_eq_add, Nat.add_right_cancel_iff, ne_up2, ne_dn2, ne_up3, ne_dn3, ne_up4, ne_dn4, Nat.reduceEqDiff, Nat.one_ne_zero, Nat.succ_ne_zero, Nat.zero_ne_one, reduceIte, List.set_cons_zero, List.set_cons_succ] at F1; rw [HV.out]))) | fail)
        all_goals
          go_wp2
          go_ret
          refine ⟨rfl, ?_⟩
          repeat (first | (with_reducible exact L1.out.below) | refine Below.setCell ?_ (by first | omega | (simp; done) | (simp; omega)) _ | refine Below.alloc ?_ (by first | omega | (simp; done) | (simp; omega)) _ | refine below_drewN ?_ _ | refine Below.drew ?_)
      · have g2 : decide (300000 < a) = false := decide_eq_false h2
        by_cases h3 : h < 1
        · have HE : Hid (brgE f b k a h = 2) := if_neg (by unfold brgB; rw [hv]; simp; omega)
          have g3 : decide (h < 1) = true := decide_eq_true h3
          clear hv
          rw [HE.out]
          have L0 := hide (Lv.start w)
          go_enter Try.func90, Try.ntmps90
          go_wp2
          (first | (go_region_with (first | (go_at_call 72; refine (plWithin_any _ _).mono ?_; rintro e w' ⟨rfl, rfl⟩) | (go_at_call 71; refine Lv.call (plAll_any f b k 10000 _ _ (by omega) (by omega) (by first | exact Blk.new _ _ _ _ (by simp) | exact (Blk.new _ _ _ _ (by simp)).drew)) (((L0.out.put _ _).put _ _).put _ _).drew ?_; intro w1 L1'; have L1 := hide L1'; have F1 := L1'.at; clear L1'; simp only [AllAt, CellsAt, updL, List.map, Nat.zero_add, Nat.reduceAdd, and_true, World.size_alloc, World.heap_drewN, heap_drew, size_set, Nat.add_eq_left, Nat.left_eq_add, Nat.add_right_cancel_iff, ne_up2, ne_dn2, ne_up3, ne_dn3, ne_up4, ne_dn4, Nat.reduceEqDiff, Nat.one_ne_zero, Nat.succ_ne_zero, Nat.zero_ne_one, reduceIte, List.set_cons_zero, List.set_cons_succ] at F1; rw [HV.out]))) | fail)
          all_goals
            go_wp2
            go_ret
            refine ⟨rfl, ?_⟩
            repeat (first | (with_reducible exact L1.out.below) | refine Below.setCell ?_ (by first | omega | (simp; done) | (simp; omega)) _ | refine Below.alloc ?_ (by first | omega | (simp; done) | (simp; omega)) _ | refine below_drewN ?_ _ | refine Below.drew ?_)
        · have g3 : decide (h < 1) = false := decide_eq_false h3
          by_cases h4 : 300000 < h
          · have HE : Hid (brgE f b k a h = 2) := if_neg (by unfold brgB; rw [hv]; simp; omega)
            have g4 : decide (300000 < h) = true := decide_eq_true h4
            clear hv
            rw [HE.out]
            have L0 := hide (Lv.start w)
            go_enter Try.func90, Try.ntmps90
            go_wp2
            (first | (go_region_with (first | (go_at_call 72; refine (plWithin_any _ _).mono ?_; rintro e w' ⟨rfl, rfl⟩) | (go_at_call 71; refine Lv.call (plAll_any f b k 10000 _ _ (by omega) (by omega) (by first | exact Blk.new _ _ _ _ (by simp) | exact (Blk.new _ _ _ _ (by simp)).drew)) (((L0.out.put _ _).put _ _).put _ _).drew ?_; intro w1 L1'; have L1 := hide L1'; have F1 := L1'.at; clear L1'; simp only [AllAt, CellsAt, updL, List.map, Nat.zero_add, Nat.reduceAdd, and_true, World.size_alloc, World.heap_drewN, heap_drew, size_set, Nat.add_eq_left, Nat.left_eq_add, Nat.add_right_cancel_iff, ne_up2, ne_dn2, ne_up3, ne_dn3, ne_up4, ne_dn4, Nat.reduceEqDiff, Nat.one_ne_zero, Nat.succ_ne_zero, Nat.zero_ne_one, reduceIte, List.set_cons_zero, List.set_cons_succ] at F1; rw [HV.out]))) | fail)
            all_goals
              go_wp2
              go_ret
              refine ⟨rfl, ?_⟩
              repeat (first | (with_reducible exact L1.out.below) | refine Below.setCell ?_ (by first | omega | (simp; done) | (simp; omega)) _ | refine Below.alloc ?_ (by first | omega | (simp; done) | (simp; omega)) _ | refine below_drewN ?_ _ | refine Below.drew ?_)
          · have HE : Hid (brgE f b k a h = 0) := if_pos (by unfold brgB; rw [hv]; simp; omega)
            have g4 : decide (300000 < h) = false := decide_eq_false h4
            clear hv
            rw [HE.out]
            have L0 := hide (Lv.start w)
            go_enter Try.func90, Try.ntmps90
            go_wp2
            (first | (go_region_with (first | (go_at_call 72; refine (plWithin_any _ _).mono ?_; rintro e w' ⟨rfl, rfl⟩) | (go_at_call 71; refine Lv.call (plAll_any f b k 10000 _ _ (by omega) (by omega) (by first | exact Blk.new _ _ _ _ (by simp) | exact (Blk.new _ _ _ _ (by simp)).drew)) (((L0.out.put _ _).put _ _).put _ _).drew ?_; intro w1 L1'; have L1 := hide L1'; have F1 := L1'.at; clear L1'; simp only [AllAt, CellsAt, updL, List.map, Nat.zero_add, Nat.reduceAdd, and_true, World.size_alloc, World.heap_drewN, heap_drew, size_set, Nat.add_eq_left, Nat.left_eq_add, Nat.add_right_cancel_iff, ne_up2, ne_dn2, ne_up3, ne_dn3, ne_up4, ne_dn4, Nat.reduceEqDiff, Nat.one_ne_zero, Nat.succ_ne_zero, Nat.zero_ne_one, reduceIte, List.set_cons_zero, List.set_cons_succ] at F1; rw [HV.out]))) | fail)
            all_goals
              go_wp2
              go_ret
              refine ⟨rfl, ?_⟩
              repeat (first | (with_reducible exact L1.out.below) | refine Below.setCell ?_ (by first | omega | (simp; done) | (simp; omega)) _ | refine Below.alloc ?_ (by first | omega | (simp; done) | (simp; omega)) _ | refine below_drewN ?_ _ | refine Below.drew ?_)
  · have hv' : inV f b k 10000 = false := by simpa using hv
    have HE : Hid (brgE f b k a h = 2) := if_neg (by unfold brgB; rw [hv']; simp)
    have HV := hide hv'
    clear hv hv'
    rw [HE.out]
    have L0 := hide (Lv.start w)
    go_enter Try.func90, Try.ntmps90
    go_wp2
    (first | (go_region_with (first | (go_at_call 72; refine (plWithin_any _ _).mono ?_; rintro e w' ⟨rfl, rfl⟩) | (go_at_call 71; refine Lv.call (plAll_any f b k 10000 _ _ (by omega) (by omega) (by first | exact Blk.new _ _ _ _ (by simp) | exact (Blk.new _ _ _ _ (by simp)).drew)) (((L0.out.put _ _).put _ _).put _ _).drew ?_; intro w1 L1'; have L1 := hide L1'; have F1 := L1'.at; clear L1'; simp only [AllAt, CellsAt, updL, List.map, Nat.zero_add, Nat.reduceAdd, and_true, World.size_alloc, World.heap_drewN, heap_drew, size_set, Nat.add_eq_left, Nat.left_eq_add, Nat.add_right_cancel_iff, ne_up2, ne_dn2, ne_up3, ne_dn3, ne_up4, ne_dn4, Nat.reduceEqDiff, Nat.one_ne_zero, Nat.succ_ne_zero, Nat.zero_ne_one, reduceIte, List.set_cons_zero, List.set_cons_succ] at F1; rw [HV.out]))) | fail)
    all_goals
      go_wp2
      go_ret
      refine ⟨rfl, ?_⟩
      repeat (first | (with_reducible exact L1.out.below) | refine Below.setCell ?_ (by first | omega | (simp; done) | (simp; omega)) _ | refine Below.alloc ?_ (by first | omega | (simp; done) | (simp; omega)) _ | refine below_drewN ?_ _ | refine Below.drew ?_)
/-- How much a bridge rises, times the lengths. -/
def steep (f b k a h : Int) : Int := (b - f) * h + (b - k) * a
structure BrgOk (f b k a h : Int) : Prop where
  f : -10000 ≤ f ∧ f ≤ 10000
  b : -10000 ≤ b ∧ b ≤ 10000
  k : -10000 ≤ k ∧ k ≤ 10000
  a : 1 ≤ a ∧ a ≤ 300000
  h : 1 ≤ h ∧ h ≤ 300000
theorem brg_ok {f b k a h : Int} (hE : brgE f b k a h = 0) : BrgOk f b k a h := by
  unfold brgE at hE
  by_cases hb : brgB f b k a h = true
  · unfold brgB inV inB at hb
    simp only [Bool.and_eq_true, decide_eq_true_eq] at hb
    exact ⟨hb.1.1, hb.1.2.1, hb.1.2.2, hb.2.1, hb.2.2⟩
  · rw [if_neg hb] at hE; omega
theorem brg_cases (f b k a h : Int) : brgE f b k a h = 0 ∨ brgE f b k a h = 2 := by unfold brgE; split <;> simp
theorem steep_in {f b k a h : Int} (o : BrgOk f b k a h) : (-6000000000 ≤ (b - f) * h ∧ (b - f) * h ≤ 6000000000) ∧ (-6000000000 ≤ (b - k) * a ∧ (b - k) * a ≤ 6000000000) ∧ (-12000000000 ≤ steep f b k a h ∧ steep f b k a h ≤ 12000000000) ∧ (1 ≤ a * h ∧ a * h ≤ 90000000000) := by
  obtain ⟨h1, h2, h3, h4, h5⟩ := o
  have k1 := mul_bound (x := b - f) (y := h) 20000 300000 (by omega) (by omega)
  have k2 := mul_bound (x := b - k) (y := a) 20000 300000 (by omega) (by omega)
  have k3 := mul_bound (x := a) (y := h) 300000 300000 (by omega) (by omega)
  have k4 : 1 * 1 ≤ a * h := Int.mul_le_mul h4.1 h5.1 (by omega) (by omega)
  rw [show (20000 * 300000 : Nat) = 6000000000 from rfl] at k1 k2
  rw [show (300000 * 300000 : Nat) = 90000000000 from rfl] at k3
  unfold steep
  omega
set_option maxHeartbeats 8000000 in
set_option maxRecDepth 100000 in
theorem plRise_any (f b k a h : Int) (w : World) (o : BrgOk f b k a h) :
    Calls Try.prog 95 #[.agg #[.int .i64 f, .int .i64 b, .int .i64 k, .int .i64 a, .int .i64 h]] w fun e w' => e = .returned (.tuple #[.int .i64 (steep f b k a h), .int .i64 (a * h)]) ∧ Below w.heap.size w w' := by
  obtain ⟨k1, k2, k3, k4⟩ := steep_in o
  obtain ⟨h1, h2, h3, h4, h5⟩ := o
  have HS : Hid (steep f b k a h = (b - f) * h + (b - k) * a) := rfl
  have W1 : IntKind.i64.wrap (b - f) = b - f := by rw [IntKind.wrap_i64]; omega
  have W2 : IntKind.i64.wrap (b - k) = b - k := by rw [IntKind.wrap_i64]; omega
  have W3 : IntKind.i64.wrap ((b - f) * h) = (b - f) * h := by rw [IntKind.wrap_i64]; omega
  have W4 : IntKind.i64.wrap ((b - k) * a) = (b - k) * a := by rw [IntKind.wrap_i64]; omega
  have W5 : IntKind.i64.wrap ((b - f) * h + (b - k) * a) = (b - f) * h + (b - k) * a := by rw [IntKind.wrap_i64]; unfold steep at k3; omega
  have W6 : IntKind.i64.wrap (a * h) = a * h := by rw [IntKind.wrap_i64]; omega
  go_enter Try.func95, Try.ntmps95
  go_wp2
  go_quiet (fail)
  go_wp2
  go_ret2
  refine ⟨by rw [HS.out]; rfl, ?_⟩
  repeat (first | exact Below.refl _ _ | refine Below.alloc ?_ (by first | omega | (simp; done) | (simp; omega)) _ | refine below_drewN ?_ _ | refine Below.drew ?_)
end Go.Proofs.Ytjfcjclhbnmgcaa
