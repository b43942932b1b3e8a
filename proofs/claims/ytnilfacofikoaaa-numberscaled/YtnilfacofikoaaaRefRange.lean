/- The contract of agrafferef01.CheckRange. -/
import Derived.Test.YtnilfacofikoaaaRange
namespace Go.Proofs.Ytnilfacofikoaaa
open Go.RowKit

set_option maxHeartbeats 400000 in
theorem refCheckRange_any (a b : Int) (w : World) :
    Calls Try.prog 11 #[.agg #[.int .i64 a, .int .i64 b]] w fun e w' => e = .returned (.int .i64 (rangeErr a b)) ∧ Below w.heap.size w w' := by
  by_cases ha : okB a
  · have ia : inR a (-1000000000000000) 1000000000000000 = true := inR_yes ha
    by_cases hb : okB b
    · have ib : inR b (-1000000000000000) 1000000000000000 = true := inR_yes hb
      by_cases h : a ≤ b
      · have HE : Hid (rangeErr a b = 0) := (if_pos ⟨ha, hb⟩).trans (if_pos h)
        clear ha hb
        go_enter Try.func11, Try.ntmps11
        go_wp2_with (go_at_call 29; refine (within3_any _ _ _ _).mono ?_; rintro e w' ⟨rfl, rfl⟩)
        go_ret
        exact ⟨ret_int HE.out.symm, (Below.refl _ _).alloc (Nat.le_refl _) _⟩
      · have HE : Hid (rangeErr a b = 9) := (if_pos ⟨ha, hb⟩).trans (if_neg h)
        clear ha hb
        go_enter Try.func11, Try.ntmps11
        go_wp2_with (go_at_call 29; refine (within3_any _ _ _ _).mono ?_; rintro e w' ⟨rfl, rfl⟩)
        go_ret
        exact ⟨ret_int HE.out.symm, (Below.refl _ _).alloc (Nat.le_refl _) _⟩
    · have ib : inR b (-1000000000000000) 1000000000000000 = false := inR_no hb
      have HE : Hid (rangeErr a b = 2) := if_neg fun h => hb h.2
      clear ha hb
      go_enter Try.func11, Try.ntmps11
      go_wp2_with (go_at_call 29; refine (within3_any _ _ _ _).mono ?_; rintro e w' ⟨rfl, rfl⟩)
      go_ret
      exact ⟨ret_int HE.out.symm, (Below.refl _ _).alloc (Nat.le_refl _) _⟩
  · have ia : inR a (-1000000000000000) 1000000000000000 = false := inR_no ha
    have HE : Hid (rangeErr a b = 2) := if_neg fun h => ha h.1
    clear ha
    go_enter Try.func11, Try.ntmps11
    go_wp2_with (go_at_call 29; refine (within3_any _ _ _ _).mono ?_; rintro e w' ⟨rfl, rfl⟩)
    go_ret
    exact ⟨ret_int HE.out.symm, (Below.refl _ _).alloc (Nat.le_refl _) _⟩

end Go.Proofs.Ytnilfacofikoaaa
