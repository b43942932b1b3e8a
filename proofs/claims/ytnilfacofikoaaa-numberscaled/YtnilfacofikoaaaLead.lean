/- Contracts of math/bits.Len64 and LeadingZeros64 for numbers below 2 to the 32. -/
import Derived.Test.YtnilfacofikoaaaBits
import Derived.Lib.BitFns
namespace Go.Proofs.Ytnilfacofikoaaa
open Go.RowKit
set_option linter.unusedVariables false
set_option linter.unusedSimpArgs false

theorem bitLen_in : ∀ x : Nat, 1 ≤ x → x < 2 ^ 64 → 2 ^ Lib.bitLen x ≤ 2 * x ∧ x < 2 ^ Lib.bitLen x := by
  intro x
  induction x using Nat.strongRecOn with
  | ind x ih =>
    intro h1 h2
    rw [Lib.bitLen_half x (by omega) h2]
    by_cases h : x = 1
    · subst h
      decide
    · have := ih (x / 2) (by omega) (by omega) (by omega)
      rw [Nat.pow_add]
      omega
set_option maxHeartbeats 4000000 in
set_option maxRecDepth 100000 in
theorem len64_any (x : Int) (w : World) (h0 : 0 ≤ x) (h : x < 4294967296) :
    Calls Try.prog 80 #[.int .u64 x] w fun e w' => e = .returned (.int .i64 (Lib.bitLen x.toNat)) ∧ w = w' := by
  by_cases h1 : 65536 ≤ x
  · by_cases h2 : 256 ≤ x / 65536
    · have k0 : 0 ≤ x / 65536 / 256 := by omega
      have k1 : x / 65536 / 256 ≤ 255 := by omega
      go_enter Try.func80, Try.ntmps80
      go_wp2
      go_ret
      refine ⟨?_, rfl⟩
      have e := Lib.len8_of (x / 65536 / 256) k0 k1
      have t : (x / 65536 / 256).toNat = x.toNat / 16777216 := by omega
      have l := Lib.bitLen_le8' (x / 65536 / 256) k0 k1
      have s := Lib.bitLen_shift24 x.toNat (by omega) (by omega)
      rw [t] at e l
      rw [e]
      refine congrArg Ending.returned (congrArg (Value.int IntKind.i64) ?_)
      unfold wrap64
      clear e t k0 k1
      omega
    · have k0 : 0 ≤ x / 65536 := by omega
      have k1 : x / 65536 ≤ 255 := by omega
      go_enter Try.func80, Try.ntmps80
      go_wp2
      go_ret
      refine ⟨?_, rfl⟩
      have e := Lib.len8_of (x / 65536) k0 k1
      have t : (x / 65536).toNat = x.toNat / 65536 := by omega
      have l := Lib.bitLen_le8' (x / 65536) k0 k1
      have s := Lib.bitLen_shift16 x.toNat (by omega) (by omega)
      rw [t] at e l
      rw [e]
      refine congrArg Ending.returned (congrArg (Value.int IntKind.i64) ?_)
      unfold wrap64
      clear e t k0 k1
      omega
  · by_cases h2 : 256 ≤ x
    · have k0 : 0 ≤ x / 256 := by omega
      have k1 : x / 256 ≤ 255 := by omega
      go_enter Try.func80, Try.ntmps80
      go_wp2
      go_ret
      refine ⟨?_, rfl⟩
      have e := Lib.len8_of (x / 256) k0 k1
      have t : (x / 256).toNat = x.toNat / 256 := by omega
      have l := Lib.bitLen_le8' (x / 256) k0 k1
      have s := Lib.bitLen_shift8 x.toNat (by omega) (by omega)
      rw [t] at e l
      rw [e]
      refine congrArg Ending.returned (congrArg (Value.int IntKind.i64) ?_)
      unfold wrap64
      clear e t k0 k1
      omega
    · have k0 : 0 ≤ x := by omega
      have k1 : x ≤ 255 := by omega
      go_enter Try.func80, Try.ntmps80
      go_wp2
      go_ret
      refine ⟨?_, rfl⟩
      have e := Lib.len8_of (x) k0 k1
      have t : (x).toNat = x.toNat := by omega
      have l := Lib.bitLen_le8' (x) k0 k1
      skip
      rw [t] at e l
      rw [e]
      refine congrArg Ending.returned (congrArg (Value.int IntKind.i64) ?_)
      unfold wrap64
      clear e t k0 k1
      omega
set_option maxHeartbeats 1000000 in
/-- The leading zeros of a number from 1 to below 2 to the 31. -/
theorem leading_any (y : Nat) (w : World) (h0 : 1 ≤ y) (h : y < 2147483648) :
    ∃ s : Nat, 33 ≤ s ∧ s ≤ 63 ∧ 2 ^ 63 ≤ y * 2 ^ s ∧ y * 2 ^ s < 2 ^ 64 ∧ ∀ w : World, Calls Try.prog 76 #[.int .u64 y] w fun e w' => e = .returned (.int .i64 (s : Int)) ∧ w = w' := by
  obtain ⟨b1, b2⟩ := bitLen_in y h0 (by omega)
  have b3 := Lib.bitLen_le y 31 (by omega) (by omega)
  have b4 : 1 ≤ Lib.bitLen y := by
    rcases Nat.eq_zero_or_pos (Lib.bitLen y) with e | e
    · rw [e] at b2; omega
    · exact e
  refine ⟨64 - Lib.bitLen y, by omega, by omega, ?_, ?_, fun w => ?_⟩
  · have h1 : 2 ^ Lib.bitLen y * 2 ^ (64 - Lib.bitLen y) ≤ 2 * y * 2 ^ (64 - Lib.bitLen y) := Nat.mul_le_mul_right _ b1
    rw [← Nat.pow_add, show Lib.bitLen y + (64 - Lib.bitLen y) = 64 by omega, Nat.mul_assoc] at h1
    omega
  · have h1 : y * 2 ^ (64 - Lib.bitLen y) < 2 ^ Lib.bitLen y * 2 ^ (64 - Lib.bitLen y) := Nat.mul_lt_mul_of_pos_right b2 (Nat.pow_pos (by omega))
    rw [← Nat.pow_add, show Lib.bitLen y + (64 - Lib.bitLen y) = 64 by omega] at h1
    exact h1
  · have C := hide (fun W => len64_any (y : Int) W (by omega) (by omega))
    obtain ⟨n, hn⟩ : ∃ n, n = Lib.bitLen y := ⟨_, rfl⟩
    have e : ((64 - Lib.bitLen y : Nat) : Int) = 64 - (n : Int) := by omega
    rw [e]
    have e2 : Lib.bitLen (y : Int).toNat = n := by rw [Int.toNat_natCast, hn]
    rw [e2] at C
    rw [← hn] at b3
    clear e e2 hn b1 b2 b4
    go_enter Try.func76, Try.ntmps76
    go_wp2_with (go_at_call 80; refine (C.out _).mono ?_; rintro e w' ⟨rfl, rfl⟩)
    go_ret
    exact ⟨rfl, rfl⟩
end Go.Proofs.Ytnilfacofikoaaa
