/- On which side of 1 a product of powers of 2, 3 and 5 lies: it does not change with a root or a power, and turns with the exponents. -/
import Derived.Test.YtfmonpjoadjimabSides
namespace Go.Proofs.Ytfmonpjoadjimab
open Go.RowKit
set_option linter.unusedSimpArgs false
set_option linter.unusedVariables false

def sgn (x y z : Int) : Int := cmpI (upTo x y z 3) (dnTo x y z 3)
theorem sgn_in (x y z : Int) : -1 ≤ sgn x y z ∧ sgn x y z ≤ 1 := by
  unfold sgn cmpI; split
  · omega
  · split <;> omega
theorem upN_scale (t : Nat) (ht : 1 ≤ t) (x : Int) (p : Nat) : upN ((t : Int) * x) p = upN x p ^ t := by
  unfold upN
  by_cases h : 0 < x
  · have h2 : 0 < (t : Int) * x := Int.mul_pos (by omega) h
    rw [if_pos h, if_pos h2, ← Nat.pow_mul]
    congr 1
    obtain ⟨m, rfl⟩ := Int.eq_ofNat_of_zero_le (Int.le_of_lt h)
    rw [← Int.natCast_mul, Int.toNat_natCast, Int.toNat_natCast, Nat.mul_comm]
  · have h2 : ¬ 0 < (t : Int) * x := by
      have : (t : Int) * x ≤ (t : Int) * 0 := Int.mul_le_mul_of_nonneg_left (by omega) (by omega)
      omega
    rw [if_neg h, if_neg h2, Nat.one_pow]
theorem upN_neg_any (x : Int) (p : Nat) : upN (-x) p = dnN x p := by
  unfold upN dnN
  by_cases h : 0 < x
  · rw [if_pos h, if_neg (by omega)]
  · rw [if_neg h]
    by_cases h2 : 0 < -x
    · rw [if_pos h2]
    · rw [if_neg h2]
      obtain rfl : x = 0 := by omega
      simp
theorem dnN_neg_any (x : Int) (p : Nat) : dnN (-x) p = upN x p := by
  have := upN_neg_any (-x) p
  rw [Int.neg_neg] at this
  exact this.symm
theorem dnN_scale (t : Nat) (ht : 1 ≤ t) (x : Int) (p : Nat) : dnN ((t : Int) * x) p = dnN x p ^ t := by
  rw [← upN_neg_any, ← upN_neg_any, ← Int.mul_neg, upN_scale t ht]
theorem upTo3 (x y z : Int) : upTo x y z 3 = upN x 2 * upN y 3 * upN z 5 := by simp [upTo]
theorem dnTo3 (x y z : Int) : dnTo x y z 3 = dnN x 2 * dnN y 3 * dnN z 5 := by simp [dnTo]
theorem cmpI_pow (A B t : Nat) (ht : 1 ≤ t) : cmpI (A ^ t) (B ^ t) = cmpI A B := by
  rcases Nat.lt_trichotomy A B with h | h | h
  · rw [cmpI_lt h, cmpI_lt (Nat.pow_lt_pow_left h (by omega))]
  · subst h; rw [cmpI_eq, cmpI_eq]
  · rw [cmpI_gt h, cmpI_gt (Nat.pow_lt_pow_left h (by omega))]
theorem cmpI_swap (A B : Nat) : cmpI B A = -cmpI A B := by
  rcases Nat.lt_trichotomy A B with h | h | h
  · rw [cmpI_lt h, cmpI_gt h]; rfl
  · subst h; rw [cmpI_eq]; rfl
  · rw [cmpI_gt h, cmpI_lt h]
theorem sgn_nat (t : Nat) (ht : 1 ≤ t) (x y z : Int) : sgn ((t : Int) * x) ((t : Int) * y) ((t : Int) * z) = sgn x y z := by
  unfold sgn
  rw [upTo3, dnTo3, upTo3, dnTo3, upN_scale t ht, upN_scale t ht, upN_scale t ht, dnN_scale t ht, dnN_scale t ht, dnN_scale t ht, ← Nat.mul_pow, ← Nat.mul_pow, ← Nat.mul_pow, ← Nat.mul_pow, cmpI_pow _ _ t ht]
theorem sgn_scale (k : Int) (hk : 1 ≤ k) (x y z : Int) : sgn (k * x) (k * y) (k * z) = sgn x y z := by
  obtain ⟨t, rfl⟩ := Int.eq_ofNat_of_zero_le (show 0 ≤ k by omega)
  exact sgn_nat t (by omega) x y z
theorem sgn_neg (x y z : Int) : sgn (-x) (-y) (-z) = -sgn x y z := by
  unfold sgn
  rw [upTo3, dnTo3, upTo3, dnTo3, upN_neg_any, upN_neg_any, upN_neg_any, dnN_neg_any, dnN_neg_any, dnN_neg_any, cmpI_swap]
theorem sgn_zero : sgn 0 0 0 = 0 := by decide
theorem sgn_div (g : Nat) (hg : 1 ≤ g) (x y z : Int) (h1 : (g : Int) ∣ x) (h2 : (g : Int) ∣ y) (h3 : (g : Int) ∣ z) : sgn (x.tdiv g) (y.tdiv g) (z.tdiv g) = sgn x y z := by
  rw [← sgn_nat g hg (x.tdiv g), Int.mul_tdiv_cancel' h1, Int.mul_tdiv_cancel' h2, Int.mul_tdiv_cancel' h3]
end Go.Proofs.Ytfmonpjoadjimab
