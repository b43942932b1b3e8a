/- The arithmetic of math/bits.Div64 by a divisor below 2^31: shifted to the left its lower half is 0, so that no digit is ever corrected. D = 2^(s-32), E = 2^(64-s), B = 2^32, s the divisor's leading zeros. -/
import Derived.Test.YtnilfacofikoaaaSmall
namespace Go.Proofs.Ytnilfacofikoaaa
open Go.RowKit

theorem div_two {hi lo y D E B : Nat} (hD : 1 ≤ D) (hE : 1 ≤ E) (hB : E * D = B) (hhi : hi < y) (hlo : lo < B * B) :
    (hi * (B * D) + lo / E) / (y * D) * B + ((hi * (B * D) + lo / E) % (y * D) * B + lo % E * D) / (y * D) = (hi * (B * B) + lo) / y ∧
    ((hi * (B * D) + lo / E) % (y * D) * B + lo % E * D) % (y * D) = (hi * (B * B) + lo) % y * D ∧
    hi * (B * D) + lo / E < y * (B * D) ∧ (hi * (B * D) + lo / E) / (y * D) < B ∧
    (hi * (B * D) + lo / E) % (y * D) * B + lo % E * D < y * D * B ∧ ((hi * (B * D) + lo / E) % (y * D) * B + lo % E * D) / (y * D) < B := by
  have hy : 1 ≤ y := by omega
  have hv : 1 ≤ y * D := Nat.mul_pos hy hD
  have hBp : 1 ≤ B := hB ▸ Nat.mul_pos hE hD
  have hz : lo % E * D < B := by
    have h1 := Nat.mod_lt lo (show E > 0 by omega)
    have h2 : lo % E * D < E * D := Nat.mul_lt_mul_of_pos_right h1 hD
    omega
  have hle : lo / E < B * D := by
    rw [Nat.div_lt_iff_lt_mul (by omega)]
    have e : B * D * E = B * B := by rw [Nat.mul_assoc, Nat.mul_comm D E, hB]
    omega
  have hsum : (hi * (B * D) + lo / E) * B + lo % E * D = (hi * (B * B) + lo) * D := by
    have e1 : lo / E * B + lo % E * D = lo * D := by
      rw [← hB, ← Nat.mul_assoc, ← Nat.add_mul, Nat.mul_comm (lo / E) E, Nat.div_add_mod]
    have e2 : hi * (B * D) * B = hi * (B * B) * D := by ac_rfl
    rw [Nat.add_mul, e2, Nat.add_assoc, e1, ← Nat.add_mul]
  have hPlt : hi * (B * D) + lo / E < y * (B * D) := by
    have h1 : (hi + 1) * (B * D) ≤ y * (B * D) := Nat.mul_le_mul_right _ hhi
    rw [Nat.add_mul, Nat.one_mul] at h1
    omega
  obtain ⟨P, hP⟩ : ∃ P, P = hi * (B * D) + lo / E := ⟨_, rfl⟩
  obtain ⟨z, hz'⟩ : ∃ z, z = lo % E * D := ⟨_, rfl⟩
  obtain ⟨v, hv'⟩ : ∃ v, v = y * D := ⟨_, rfl⟩
  rw [← hP, ← hz'] at hsum
  rw [← hP] at hPlt
  rw [← hz'] at hz
  rw [← hP, ← hz', ← hv']
  rw [← hv'] at hv
  have hPv : P < B * v := by
    have e : y * (B * D) = B * v := by rw [hv']; ac_rfl
    omega
  have hR := Nat.mod_lt P (show v > 0 by omega)
  have hU : P % v * B + z < v * B := by
    have h1 : (P % v + 1) * B ≤ v * B := Nat.mul_le_mul_right _ hR
    rw [Nat.add_mul, Nat.one_mul] at h1
    omega
  have hN : (hi * (B * B) + lo) * D = P % v * B + z + P / v * B * v := by
    have e : P * B = (v * (P / v) + P % v) * B := by rw [Nat.div_add_mod]
    rw [← hsum, e, Nat.add_mul]
    have e2 : v * (P / v) * B = P / v * B * v := by ac_rfl
    omega
  refine ⟨?_, ?_, hPlt, ?_, hU, ?_⟩
  · have h1 : (hi * (B * B) + lo) * D / (y * D) = (hi * (B * B) + lo) / y := Nat.mul_div_mul_right _ _ hD
    rw [← h1, ← hv', hN, Nat.add_mul_div_right _ _ hv]
    omega
  · have h1 : (hi * (B * B) + lo) * D % (y * D) = (hi * (B * B) + lo) % y * D := Nat.mul_mod_mul_right _ _ _
    rw [← h1, ← hv', hN, Nat.add_mul_mod_self_right]
  · rw [Nat.div_lt_iff_lt_mul (by omega)]; exact hPv
  · rw [Nat.div_lt_iff_lt_mul (by omega), Nat.mul_comm B v]; exact hU
end Go.Proofs.Ytnilfacofikoaaa
