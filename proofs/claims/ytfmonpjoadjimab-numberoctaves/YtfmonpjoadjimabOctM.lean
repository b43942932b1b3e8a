/- The octaves of a pitch: the greatest number by which it can be lowered and stays at 1 or above. -/
import Derived.Test.YtfmonpjoadjimabSgn
import Derived.Test.YtfmonpjoadjimabLive
namespace Go.Proofs.Ytfmonpjoadjimab
open Go.RowKit
set_option linter.unusedSimpArgs false
set_option linter.unusedVariables false

theorem sgn_ge {x y z : Int} : 0 ≤ sgn x y z ↔ dnTo x y z 3 ≤ upTo x y z 3 := by
  unfold sgn
  rcases Nat.lt_trichotomy (upTo x y z 3) (dnTo x y z 3) with h | h | h
  · rw [cmpI_lt h]; omega
  · rw [h, cmpI_eq]; omega
  · rw [cmpI_gt h]; omega
theorem upN_mono {x y : Int} {p : Nat} (hp : 1 ≤ p) (h : x ≤ y) : upN x p ≤ upN y p ∧ dnN y p ≤ dnN x p := by
  have key : ∀ u v : Int, u ≤ v → upN u p ≤ upN v p := fun u v huv => by
    unfold upN
    by_cases h1 : 0 < u
    · rw [if_pos h1, if_pos (by omega)]
      exact Nat.pow_le_pow_right hp (by omega)
    · rw [if_neg h1]
      split
      · exact Nat.pow_pos hp
      · omega
  refine ⟨key x y h, ?_⟩
  rw [← upN_neg_any, ← upN_neg_any]
  exact key _ _ (by omega)
theorem sgn_mono {x x' y z : Int} (h : x ≤ x') (h0 : 0 ≤ sgn x y z) : 0 ≤ sgn x' y z := by
  rw [sgn_ge, upTo3, dnTo3] at *
  obtain ⟨h1, h2⟩ := upN_mono (p := 2) (by omega) h
  have k1 : upN x 2 * upN y 3 * upN z 5 ≤ upN x' 2 * upN y 3 * upN z 5 := Nat.mul_le_mul_right _ (Nat.mul_le_mul_right _ h1)
  have k2 : dnN x' 2 * dnN y 3 * dnN z 5 ≤ dnN x 2 * dnN y 3 * dnN z 5 := Nat.mul_le_mul_right _ (Nat.mul_le_mul_right _ h2)
  omega
theorem dn_small {y : Int} {p q m : Nat} (hp : 1 ≤ p) (hpq : p ≤ 2 ^ q) (hy : y.natAbs ≤ m) : dnN y p ≤ 2 ^ (q * m) ∧ upN y p ≤ 2 ^ (q * m) := by
  have key : ∀ t : Nat, t ≤ m → p ^ t ≤ 2 ^ (q * m) := fun t ht => by
    have h1 : p ^ t ≤ (2 ^ q) ^ t := Nat.pow_le_pow_left hpq t
    rw [← Nat.pow_mul] at h1
    have h2 : 2 ^ (q * t) ≤ 2 ^ (q * m) := Nat.pow_le_pow_right (by omega) (Nat.mul_le_mul_left _ ht)
    omega
  have one : 1 ≤ 2 ^ (q * m) := Nat.pow_pos (by omega)
  unfold dnN upN
  constructor
  · split
    · exact one
    · exact key _ (by omega)
  · split
    · exact key _ (by omega)
    · exact one
theorem up_big {x : Int} {m : Nat} (h : (m : Int) ≤ x) : 2 ^ m ≤ upN x 2 ∧ dnN x 2 = 1 := by
  unfold upN dnN
  by_cases h0 : 0 < x
  · rw [if_pos h0, if_pos h0]
    exact ⟨Nat.pow_le_pow_right (by omega) (by omega), rfl⟩
  · rw [if_neg h0, if_neg h0]
    obtain rfl : x = 0 := by omega
    obtain rfl : m = 0 := by omega
    simp
/-- Far above, far below. -/
theorem sgn_high {x y z : Int} (h : 2 * (y.natAbs : Int) + 3 * (z.natAbs : Int) ≤ x) : 0 ≤ sgn x y z := by
  rw [sgn_ge, upTo3, dnTo3]
  obtain ⟨u1, u2⟩ := up_big (m := 2 * y.natAbs + 3 * z.natAbs) (by omega : ((2 * y.natAbs + 3 * z.natAbs : Nat) : Int) ≤ x)
  obtain ⟨d1, _⟩ := dn_small (y := y) (p := 3) (q := 2) (by omega) (by omega) (Nat.le_refl _)
  obtain ⟨e1, _⟩ := dn_small (y := z) (p := 5) (q := 3) (by omega) (by omega) (Nat.le_refl _)
  have p1 := upN_pos y (p := 3) (by omega)
  have p2' := upN_pos z (p := 5) (by omega)
  rw [u2, Nat.one_mul]
  have k1 : dnN y 3 * dnN z 5 ≤ 2 ^ (2 * y.natAbs) * 2 ^ (3 * z.natAbs) := Nat.mul_le_mul d1 e1
  rw [← Nat.pow_add] at k1
  have k2 : upN x 2 * 1 * 1 ≤ upN x 2 * upN y 3 * upN z 5 := Nat.mul_le_mul (Nat.mul_le_mul_left _ p1) p2'
  omega
theorem sgn_low {x y z : Int} (h : x < -(2 * (y.natAbs : Int) + 3 * (z.natAbs : Int))) : sgn x y z < 0 := by
  have h1 := sgn_neg (-x) (-y) (-z)
  rw [Int.neg_neg, Int.neg_neg, Int.neg_neg] at h1
  have hlt : dnTo (-x) (-y) (-z) 3 < upTo (-x) (-y) (-z) 3 := by
    rw [upTo3, dnTo3]
    obtain ⟨u1, u2⟩ := up_big (x := -x) (m := 2 * y.natAbs + 3 * z.natAbs + 1) (by omega)
    obtain ⟨d1, _⟩ := dn_small (y := -y) (p := 3) (q := 2) (m := y.natAbs) (by omega) (by omega) (by omega)
    obtain ⟨e1, _⟩ := dn_small (y := -z) (p := 5) (q := 3) (m := z.natAbs) (by omega) (by omega) (by omega)
    have p1 := upN_pos (-y) (p := 3) (by omega)
    have p2' := upN_pos (-z) (p := 5) (by omega)
    rw [u2, Nat.one_mul]
    have k1 : dnN (-y) 3 * dnN (-z) 5 ≤ 2 ^ (2 * y.natAbs) * 2 ^ (3 * z.natAbs) := Nat.mul_le_mul d1 e1
    rw [← Nat.pow_add] at k1
    have k2 : upN (-x) 2 * 1 * 1 ≤ upN (-x) 2 * upN (-y) 3 * upN (-z) 5 := Nat.mul_le_mul (Nat.mul_le_mul_left _ p1) p2'
    have k3 : 2 ^ (2 * y.natAbs + 3 * z.natAbs) < 2 ^ (2 * y.natAbs + 3 * z.natAbs + 1) := (Nat.pow_lt_pow_iff_right (by omega)).2 (by omega)
    omega
  have h2 : sgn (-x) (-y) (-z) = 1 := by unfold sgn; exact cmpI_gt hlt
  omega
theorem fif_le {y z : Int} {m : Nat} (hy : y.natAbs ≤ m) (hz : z.natAbs ≤ m) : dnN y 3 * dnN z 5 ≤ 2 ^ (4 * m) := by
  have key : ∀ (v : Int) (p : Nat), 1 ≤ p → v.natAbs ≤ m → dnN v p ≤ p ^ m := fun v p hp hv => by
    have one : 1 ≤ p ^ m := Nat.pow_pos hp
    unfold dnN
    split
    · exact one
    · exact Nat.pow_le_pow_right hp (by omega)
  have h1 := Nat.mul_le_mul (key y 3 (by omega) hy) (key z 5 (by omega) hz)
  rw [← Nat.mul_pow] at h1
  have h2 : (3 * 5) ^ m ≤ (2 ^ 4) ^ m := Nat.pow_le_pow_left (by omega) m
  rw [← Nat.pow_mul] at h2
  exact Nat.le_trans h1 h2
theorem sgn_high2 {x y z : Int} {m : Nat} (hy : y.natAbs ≤ m) (hz : z.natAbs ≤ m) (h : 4 * (m : Int) ≤ x) : 0 ≤ sgn x y z := by
  rw [sgn_ge, upTo3, dnTo3]
  obtain ⟨u1, u2⟩ := up_big (m := 4 * m) (by omega : ((4 * m : Nat) : Int) ≤ x)
  have p1 := upN_pos y (p := 3) (by omega)
  have p2' := upN_pos z (p := 5) (by omega)
  rw [u2, Nat.one_mul]
  have k1 := fif_le hy hz
  have k2 : upN x 2 * 1 * 1 ≤ upN x 2 * upN y 3 * upN z 5 := Nat.mul_le_mul (Nat.mul_le_mul_left _ p1) p2'
  omega
theorem sgn_low2 {x y z : Int} {m : Nat} (hy : y.natAbs ≤ m) (hz : z.natAbs ≤ m) (h : x < -(4 * (m : Int))) : sgn x y z < 0 := by
  have h1 := sgn_neg (-x) (-y) (-z)
  rw [Int.neg_neg, Int.neg_neg, Int.neg_neg] at h1
  have hlt : dnTo (-x) (-y) (-z) 3 < upTo (-x) (-y) (-z) 3 := by
    rw [upTo3, dnTo3]
    obtain ⟨u1, u2⟩ := up_big (x := -x) (m := 4 * m + 1) (by omega)
    have k1 := fif_le (y := -y) (z := -z) (m := m) (by omega) (by omega)
    have p1 := upN_pos (-y) (p := 3) (by omega)
    have p2' := upN_pos (-z) (p := 5) (by omega)
    rw [u2, Nat.one_mul]
    have k2 : upN (-x) 2 * 1 * 1 ≤ upN (-x) 2 * upN (-y) 3 * upN (-z) 5 := Nat.mul_le_mul (Nat.mul_le_mul_left _ p1) p2'
    have k3 : 2 ^ (4 * m) < 2 ^ (4 * m + 1) := (Nat.pow_lt_pow_iff_right (by omega)).2 (by omega)
    omega
  have h2 : sgn (-x) (-y) (-z) = 1 := by unfold sgn; exact cmpI_gt hlt
  omega
/-- n octaves down is at 1 or above, one more is not. -/
def OctV (a b c d n : Int) : Prop := 0 ≤ sgn (a - n * d) b c ∧ sgn (a - (n + 1) * d) b c < 0
theorem OctV.one {a b c d n m : Int} (hd : 1 ≤ d) (h : OctV a b c d n) (k : OctV a b c d m) : n = m := by
  have mono : ∀ u v : Int, u + 1 ≤ v → a - v * d ≤ a - (u + 1) * d := fun u v huv => by
    have := Int.mul_le_mul_of_nonneg_right huv (show 0 ≤ d by omega)
    omega
  rcases Int.lt_trichotomy n m with hlt | he | hgt
  · have := sgn_mono (mono n m (by omega)) k.1
    have := h.2
    omega
  · exact he
  · have := sgn_mono (mono m n (by omega)) h.1
    have := k.2
    omega
end Go.Proofs.Ytfmonpjoadjimab
