/- The values that math/bits.Div64 goes through by a divisor below 2^31, as the walk spells them. -/
import Derived.Test.YtnilfacofikoaaaLead
import Derived.Test.YtnilfacofikoaaaDivM
namespace Go.Proofs.Ytnilfacofikoaaa
open Go.RowKit
set_option linter.unusedVariables false

theorem wrap_nat (n : Nat) : IntKind.u64.wrap (n : Int) = ((n % 18446744073709551616 : Nat) : Int) := by rw [IntKind.wrap_u64]; omega
theorem and_low (n : Nat) (h : n < 18446744073709551616) (hz : n % 4294967296 = 0) : bits .and .u64 (n : Int) 4294967295 = 0 := by
  rw [maskN n h, hz]
  rfl
theorem or_add (a b s : Nat) (ha : a * 2 ^ s < 18446744073709551616) (hb : b < 2 ^ s) (hb2 : b < 18446744073709551616) : bits .or .u64 ((a * 2 ^ s : Nat) : Int) (b : Int) = ((a * 2 ^ s + b : Nat) : Int) := by
  have e : a * 2 ^ s ||| b = a * 2 ^ s + b := by
    have := Nat.shiftLeft_add_eq_or_of_lt hb a
    rw [Nat.shiftLeft_eq] at this
    exact this.symm
  rw [bits_or_u64_nat _ _ ha hb2, e]

/-- All values of the walk, one name each. -/
structure DivV (H L Y S V v hs lq P u10 z q1 R A1 A2 A3 U q0 r0 B1 B3 B4 q rest : Int) : Prop where
  f1 : IntKind.u64.wrap (Y * 2 ^ S.toNat) = V
  f2 : V / 4294967296 = v
  n2 : ¬ v = 0
  f3 : bits .and .u64 V 4294967295 = 0
  f4 : IntKind.u64.wrap (H * 2 ^ S.toNat) = hs
  f5 : L / 2 ^ (64 - S).toNat = lq
  f6 : bits .or .u64 hs lq = P
  f7 : IntKind.u64.wrap (L * 2 ^ S.toNat) = u10
  f8 : u10 / 4294967296 = z
  f9 : bits .and .u64 u10 4294967295 = 0
  f10 : P / v = q1
  f10' : P.tdiv v = q1
  b10 : 0 ≤ q1 ∧ q1 < 4294967296
  f11 : P - q1 * v = R
  f11' : IntKind.u64.wrap (q1 * v) = q1 * v
  b11 : 0 ≤ R ∧ R < 4294967296
  bz : 0 ≤ z ∧ 4294967296 * R + z < 18446744073709551616
  f12 : IntKind.u64.wrap (P * 4294967296) = A1
  f13 : IntKind.u64.wrap (A1 + z) = A2
  f14 : IntKind.u64.wrap (q1 * V) = A3
  f15 : IntKind.u64.wrap (A2 - A3) = U
  f16 : U / v = q0
  f16' : U.tdiv v = q0
  b16 : 0 ≤ q0 ∧ q0 < 4294967296
  f17 : U - q0 * v = r0
  f17' : IntKind.u64.wrap (q0 * v) = q0 * v
  b17 : 0 ≤ r0 ∧ r0 < 4294967296
  f18 : IntKind.u64.wrap (U * 4294967296) = B1
  f19 : IntKind.u64.wrap (q0 * V) = B3
  f20 : IntKind.u64.wrap (B1 - B3) = B4
  f21 : B4 / 2 ^ S.toNat = rest
  f22 : q1 * 4294967296 + q0 = q
theorem div_vals (hi lo y s : Nat) (hy : 1 ≤ y ∧ y < 2147483648) (hhi : hi < y) (hlo : lo < 18446744073709551616) (s1 : 33 ≤ s) (s2 : s ≤ 63) (s3 : 2 ^ 63 ≤ y * 2 ^ s) (s4 : y * 2 ^ s < 2 ^ 64) :
    ∃ V v hs lq P u10 z q1 R A1 A2 A3 U q0 r0 B1 B3 B4 : Int, DivV hi lo y s V v hs lq P u10 z q1 R A1 A2 A3 U q0 r0 B1 B3 B4 (((hi * 18446744073709551616 + lo) / y : Nat) : Int) (((hi * 18446744073709551616 + lo) % y : Nat) : Int) := by
  have kk : (4294967296 : Nat) * 4294967296 = 18446744073709551616 := by decide
  obtain ⟨D, hD⟩ : ∃ D, D = 2 ^ (s - 32) := ⟨_, rfl⟩
  obtain ⟨E, hE⟩ : ∃ E, E = 2 ^ (64 - s) := ⟨_, rfl⟩
  have hDp : 1 ≤ D := hD ▸ Nat.pow_pos (by omega)
  have hEp : 1 ≤ E := hE ▸ Nat.pow_pos (by omega)
  have hB : E * D = 4294967296 := by rw [hD, hE, ← Nat.pow_add, show 64 - s + (s - 32) = 32 by omega]
  have hS : (2 : Nat) ^ s = 4294967296 * D := by
    rw [hD, show (4294967296 : Nat) = 2 ^ 32 by decide, ← Nat.pow_add, show 32 + (s - 32) = s by omega]
  have hSI : (2 : Int) ^ s = ((4294967296 * D : Nat) : Int) := by rw [← hS]; exact (Int.natCast_pow 2 s).symm
  have hEI : (2 : Int) ^ (64 - (s : Int)).toNat = (E : Int) := by
    rw [show (64 - (s : Int)).toNat = 64 - s by omega, hE]; exact (Int.natCast_pow 2 (64 - s)).symm
  have hD2 : 2 ≤ D := by
    rw [hD]
    have : 2 ^ 1 ≤ 2 ^ (s - 32) := Nat.pow_le_pow_right (by omega) (by omega)
    omega
  obtain ⟨d1, d2, d3, d4, d5, d6⟩ := div_two (hi := hi) (lo := lo) (y := y) (D := D) (E := E) (B := 4294967296) hDp hEp hB hhi (by omega)
  rw [hS] at s3 s4
  obtain ⟨v, hv⟩ : ∃ v, v = y * D := ⟨_, rfl⟩
  have hV : y * (4294967296 * D) = 4294967296 * v := by rw [hv]; ac_rfl
  rw [hV] at s3 s4 d3
  rw [← hv] at d1 d2 d4 d5 d6
  have v1 : 2147483648 ≤ v ∧ v < 4294967296 := by omega
  have hz : lo % E * D < 4294967296 := by
    have h1 := Nat.mod_lt lo (show E > 0 by omega)
    have h2 : lo % E * D < E * D := Nat.mul_lt_mul_of_pos_right h1 hDp
    omega
  have hlq : lo / E < 4294967296 * D := by
    rw [Nat.div_lt_iff_lt_mul (by omega), Nat.mul_assoc, Nat.mul_comm D E, hB]
    omega
  have hu10 : lo * (4294967296 * D) % 18446744073709551616 = 4294967296 * (lo % E * D) := by
    have e : lo * (4294967296 * D) = 4294967296 * (lo % E * D) + lo / E * 18446744073709551616 := by
      have k : lo * (4294967296 * D) = (E * (lo / E) + lo % E) * (4294967296 * D) := by rw [Nat.div_add_mod]
      rw [k, Nat.add_mul]
      have k2 : E * (lo / E) * (4294967296 * D) = lo / E * (4294967296 * (E * D)) := by ac_rfl
      have k3 : lo % E * (4294967296 * D) = 4294967296 * (lo % E * D) := by ac_rfl
      rw [k2, k3, hB, kk, Nat.add_comm]
    rw [e, Nat.add_mul_mod_self_right]
    omega
  obtain ⟨z, hz'⟩ : ∃ z, z = lo % E * D := ⟨_, rfl⟩
  obtain ⟨P, hP⟩ : ∃ P, P = hi * (4294967296 * D) + lo / E := ⟨_, rfl⟩
  rw [← hz'] at d1 d2 d5 d6 hz hu10
  rw [← hP] at d1 d2 d3 d4 d5 d6
  obtain ⟨q1, hq1⟩ : ∃ q, q = P / v := ⟨_, rfl⟩
  obtain ⟨R, hR⟩ : ∃ R, R = P % v := ⟨_, rfl⟩
  have hPe : v * q1 + R = P := by rw [hq1, hR]; exact Nat.div_add_mod P v
  have hRl : R < v := hR ▸ Nat.mod_lt P (by omega)
  rw [← hq1] at d1 d4
  rw [← hR] at d1 d2 d5 d6
  obtain ⟨U, hU⟩ : ∃ U, U = R * 4294967296 + z := ⟨_, rfl⟩
  rw [← hU] at d1 d2 d5 d6
  obtain ⟨q0, hq0⟩ : ∃ q, q = U / v := ⟨_, rfl⟩
  obtain ⟨r0, hr0⟩ : ∃ R, R = U % v := ⟨_, rfl⟩
  have hUe : v * q0 + r0 = U := by rw [hq0, hr0]; exact Nat.div_add_mod U v
  have hrl : r0 < v := hr0 ▸ Nat.mod_lt U (by omega)
  rw [← hq0] at d1 d6
  rw [← hr0] at d2
  have c1 : (v : Int) * q1 + R = P := by rw [← hPe]; rfl
  have c0 : (v : Int) * q0 + r0 = U := by rw [← hUe]; rfl
  have m1 : (q1 : Int) * v = v * q1 := Int.mul_comm _ _
  have m0 : (q0 : Int) * v = v * q0 := Int.mul_comm _ _
  have hc : ((4294967296 * v : Nat) : Int) = 4294967296 * (v : Int) := by omega
  have M1 : (q1 : Int) * ((4294967296 * v : Nat) : Int) = 4294967296 * ((v : Int) * q1) := by
    rw [hc, ← Int.mul_assoc, Int.mul_comm (q1 : Int), Int.mul_assoc, m1]
  have M0 : (q0 : Int) * ((4294967296 * v : Nat) : Int) = 4294967296 * ((v : Int) * q0) := by
    rw [hc, ← Int.mul_assoc, Int.mul_comm (q0 : Int), Int.mul_assoc, m0]
  have p1 : 0 ≤ (v : Int) * q1 := Int.mul_nonneg (by omega) (by omega)
  have p0 : 0 ≤ (v : Int) * q0 := Int.mul_nonneg (by omega) (by omega)
  obtain ⟨X1, hX1⟩ : ∃ X : Int, X = (v : Int) * q1 := ⟨_, rfl⟩
  obtain ⟨X0, hX0⟩ : ∃ X : Int, X = (v : Int) * q0 := ⟨_, rfl⟩
  rw [← hX1] at c1 m1 M1 p1
  rw [← hX0] at c0 m0 M0 p0
  have hUI : (U : Int) = R * 4294967296 + z := by omega
  have hN : hi * 18446744073709551616 + lo = hi * (4294967296 * 4294967296) + lo := by rw [kk]
  have hhs : hi * (4294967296 * D) < 18446744073709551616 := by
    have h1 := Nat.mul_le_mul_right (4294967296 * D) (Nat.le_of_lt hhi)
    rw [hV] at h1
    omega
  refine ⟨((4294967296 * v : Nat) : Int), (v : Int), ((hi * (4294967296 * D) : Nat) : Int), ((lo / E : Nat) : Int), (P : Int), ((4294967296 * z : Nat) : Int), (z : Int), (q1 : Int), (R : Int), IntKind.u64.wrap ((P : Int) * 4294967296), IntKind.u64.wrap (IntKind.u64.wrap ((P : Int) * 4294967296) + z), IntKind.u64.wrap ((q1 : Int) * ((4294967296 * v : Nat) : Int)), (U : Int), (q0 : Int), (r0 : Int), IntKind.u64.wrap ((U : Int) * 4294967296), IntKind.u64.wrap ((q0 : Int) * ((4294967296 * v : Nat) : Int)), ((4294967296 * r0 : Nat) : Int), ?_⟩
  refine { f1 := ?_, f2 := ?_, n2 := by omega, f3 := ?_, f4 := ?_, f5 := ?_, f6 := ?_, f7 := ?_, f8 := ?_, f9 := ?_, f10 := ?_, f10' := ?_, b10 := by omega, f11 := by omega, f11' := ?_, b11 := by omega, bz := by omega, f12 := rfl, f13 := rfl, f14 := rfl, f15 := ?_, f16 := ?_, f16' := ?_, b16 := by omega, f17 := by omega, f17' := ?_, b17 := by omega, f18 := rfl, f19 := rfl, f20 := ?_, f21 := ?_, f22 := ?_ }
  · rw [Int.toNat_natCast, hSI, ← Int.natCast_mul, hV, wrap_nat]; omega
  · omega
  · exact and_low _ (by omega) (by omega)
  · rw [Int.toNat_natCast, hSI, ← Int.natCast_mul, wrap_nat]; omega
  · rw [hEI]; rfl
  · have h := or_add hi (lo / E) s (by rw [hS]; exact hhs) (by rw [hS]; exact hlq) (by omega)
    rw [hS, ← hP] at h
    exact h
  · rw [Int.toNat_natCast, hSI, ← Int.natCast_mul, wrap_nat, hu10]
  · omega
  · exact and_low _ (by omega) (by omega)
  · rw [hq1]; rfl
  · rw [hq1, Int.tdiv_eq_ediv_of_nonneg (by omega)]; rfl
  · rw [m1, IntKind.wrap_u64]; omega
  · rw [M1, IntKind.wrap_u64, IntKind.wrap_u64, IntKind.wrap_u64, IntKind.wrap_u64]; omega
  · rw [hq0]; rfl
  · rw [hq0, Int.tdiv_eq_ediv_of_nonneg (by omega)]; rfl
  · rw [m0, IntKind.wrap_u64]; omega
  · rw [M0, IntKind.wrap_u64, IntKind.wrap_u64, IntKind.wrap_u64]; omega
  · rw [Int.toNat_natCast, hSI, d2, ← hN]
    have e : 4294967296 * ((hi * 18446744073709551616 + lo) % y * D) = (hi * 18446744073709551616 + lo) % y * (4294967296 * D) := by ac_rfl
    rw [e, ← Int.natCast_ediv, Nat.mul_div_cancel _ (by omega)]
  · rw [hN, ← d1]; omega
end Go.Proofs.Ytnilfacofikoaaa
