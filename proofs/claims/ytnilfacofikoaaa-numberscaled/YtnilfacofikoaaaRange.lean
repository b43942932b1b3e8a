/- Contracts of number.CheckRange, fitting. -/
import Derived.Test.YtnilfacofikoaaaFrac
namespace Go.Proofs.Ytnilfacofikoaaa
open Go.RowKit

def okB (x : Int) : Prop := -1000000000000000 ≤ x ∧ x ≤ 1000000000000000
instance (x : Int) : Decidable (okB x) := inferInstanceAs (Decidable (_ ∧ _))
/-- A range's error: a bound too great (2), out of order (9), or none. -/
def rangeErr (a b : Int) : Int := if okB a ∧ okB b then (if a ≤ b then 0 else 9) else 2

set_option maxHeartbeats 400000 in
theorem checkRange_any (a b : Int) (w : World) :
    Calls Try.prog 34 #[.agg #[.int .i64 a, .int .i64 b]] w fun e w' => e = .returned (.int .i64 (rangeErr a b)) ∧ Below w.heap.size w w' := by
  by_cases ha : okB a
  · have ia : inB a 1000000000000000 = true := inB_yes ha
    by_cases hb : okB b
    · have ib : inB b 1000000000000000 = true := inB_yes hb
      by_cases h : a ≤ b
      · have HE : Hid (rangeErr a b = 0) := (if_pos ⟨ha, hb⟩).trans (if_pos h)
        clear ha hb
        go_enter Try.func34, Try.ntmps34
        go_wp2_with (go_at_call 44; refine (within_any _ _ _ (by omega) (by omega)).mono ?_; rintro e w' ⟨rfl, rfl⟩)
        go_ret
        exact ⟨ret_int HE.out.symm, (Below.refl _ _).alloc (Nat.le_refl _) _⟩
      · have HE : Hid (rangeErr a b = 9) := (if_pos ⟨ha, hb⟩).trans (if_neg h)
        clear ha hb
        go_enter Try.func34, Try.ntmps34
        go_wp2_with (go_at_call 44; refine (within_any _ _ _ (by omega) (by omega)).mono ?_; rintro e w' ⟨rfl, rfl⟩)
        go_ret
        exact ⟨ret_int HE.out.symm, (Below.refl _ _).alloc (Nat.le_refl _) _⟩
    · have ib : inB b 1000000000000000 = false := inB_no hb
      have HE : Hid (rangeErr a b = 2) := if_neg fun h => hb h.2
      clear ha hb
      go_enter Try.func34, Try.ntmps34
      go_wp2_with (go_at_call 44; refine (within_any _ _ _ (by omega) (by omega)).mono ?_; rintro e w' ⟨rfl, rfl⟩)
      go_ret
      exact ⟨ret_int HE.out.symm, (Below.refl _ _).alloc (Nat.le_refl _) _⟩
  · have ia : inB a 1000000000000000 = false := inB_no ha
    have HE : Hid (rangeErr a b = 2) := if_neg fun h => ha h.1
    clear ha
    go_enter Try.func34, Try.ntmps34
    go_wp2_with (go_at_call 44; refine (within_any _ _ _ (by omega) (by omega)).mono ?_; rintro e w' ⟨rfl, rfl⟩)
    go_ret
    exact ⟨ret_int HE.out.symm, (Below.refl _ _).alloc (Nat.le_refl _) _⟩

theorem rangeErr_cases (a b : Int) : (rangeErr a b = 0 ∧ okB a ∧ okB b ∧ a ≤ b) ∨ rangeErr a b = 2 ∨ rangeErr a b = 9 := by
  unfold rangeErr
  by_cases h1 : okB a ∧ okB b
  · rw [if_pos h1]
    by_cases h2 : a ≤ b
    · rw [if_pos h2]; exact Or.inl ⟨rfl, h1.1, h1.2, h2⟩
    · rw [if_neg h2]; exact Or.inr (Or.inr rfl)
  · rw [if_neg h1]; exact Or.inr (Or.inl rfl)
/-- A range if it is valid, else zeros, and its error. -/
def rl (a b : Int) : Int := if rangeErr a b = 0 then a else 0
def rh (a b : Int) : Int := if rangeErr a b = 0 then b else 0
def re (a b : Int) : Int := if rangeErr a b = 0 then 0 else 8
theorem rangeV_ok {a b : Int} (h : rangeErr a b = 0) : (.tuple #[.agg #[.int .i64 (rl a b), .int .i64 (rh a b)], .int .i64 (re a b)] : Value) = .tuple #[.agg #[.int .i64 a, .int .i64 b], .int .i64 0] := by
  unfold rl rh re; rw [if_pos h, if_pos h, if_pos h]
theorem rangeV_no {a b : Int} (h : rangeErr a b ≠ 0) : (.tuple #[.agg #[.int .i64 (rl a b), .int .i64 (rh a b)], .int .i64 (re a b)] : Value) = .tuple #[.agg #[.int .i64 0, .int .i64 0], .int .i64 8] := by
  unfold rl rh re; rw [if_neg h, if_neg h, if_neg h]
set_option maxHeartbeats 1000000 in
set_option maxRecDepth 100000 in
theorem fitting_any (a b : Int) (w : World) :
    Calls Try.prog 37 #[.agg #[.int .i64 a, .int .i64 b]] w fun e w' => e = .returned (.tuple #[.agg #[.int .i64 (rl a b), .int .i64 (rh a b)], .int .i64 (re a b)]) ∧ Below w.heap.size w w' := by
  go_enter Try.func37, Try.ntmps37
  go_wp2_with fail
  refine (checkRange_any a b _).mono ?_
  rintro e w2 ⟨rfl, hb2⟩
  have B2 : Hid (Blk w2 w.heap.size 23 #[.int .i64 a, .int .i64 b]) := ((Blk.new w _ _ _ rfl).alloc _).kept hb2
  have R2 : Hid (Blk w2 (w.heap.size + 1) 23 #[.int .i64 0, .int .i64 0]) := (Blk.new (w.alloc _) _ _ _ (by simp)).kept hb2
  have HB : Hid (Below w.heap.size w w2) := (below_two w _ _).trans (hb2.mono (by simp; omega))
  clear hb2
  obtain ⟨⟨q0, q1⟩, _⟩ := B2.out.c2
  obtain ⟨⟨t0, t1⟩, f0, f1⟩ := R2.out.c2
  rcases rangeErr_cases a b with ⟨h, _, _, _⟩ | h | h
  · have HV := hide (rangeV_ok h)
    rw [h]
    clear h
    go_wp2
    refine bodyPost_ret (v := .tuple #[.agg #[.int .i64 a, .int .i64 b], .int .i64 0]) (by simp [results, Try.results37, go_sem, t0, t1]) rfl ⟨by rw [HV.out], ?_⟩
    repeat (first | exact HB.out | refine Below.setCell ?_ (by simp) _)
  · have HV := hide (rangeV_no (show rangeErr a b ≠ 0 by omega))
    rw [h]
    clear h
    go_wp2
    refine bodyPost_ret (v := .tuple #[.agg #[.int .i64 0, .int .i64 0], .int .i64 8]) (by simp [results, Try.results37, go_sem, t0, t1]) rfl ⟨by rw [HV.out], ?_⟩
    repeat (first | exact HB.out | refine Below.setCell ?_ (by simp) _)
  · have HV := hide (rangeV_no (show rangeErr a b ≠ 0 by omega))
    rw [h]
    clear h
    go_wp2
    refine bodyPost_ret (v := .tuple #[.agg #[.int .i64 0, .int .i64 0], .int .i64 8]) (by simp [results, Try.results37, go_sem, t0, t1]) rfl ⟨by rw [HV.out], ?_⟩
    repeat (first | exact HB.out | refine Below.setCell ?_ (by simp) _)
end Go.Proofs.Ytnilfacofikoaaa
