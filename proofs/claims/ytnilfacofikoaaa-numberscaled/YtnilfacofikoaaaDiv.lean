/- The contract of math/bits.Div64 by a divisor below 2 to the 31. -/
import Derived.Test.YtnilfacofikoaaaDivF
import Derived.BigQuiet
namespace Go.Proofs.Ytnilfacofikoaaa
open Go.RowKit
set_option linter.unusedVariables false
set_option linter.unusedSimpArgs false

set_option maxHeartbeats 1000000 in
set_option maxRecDepth 100000 in
theorem div64_any (hi lo y : Nat) (w : World) (hy : 1 ≤ y ∧ y < 2147483648) (hhi : hi < y) (hlo : lo < 18446744073709551616) :
    Calls Try.prog 66 #[.int .u64 hi, .int .u64 lo, .int .u64 y] w fun e w' => e = .returned (.tuple #[.int .u64 (((hi * 18446744073709551616 + lo) / y : Nat) : Int), .int .u64 (((hi * 18446744073709551616 + lo) % y : Nat) : Int)]) ∧ ∃ n, w' = w.drewN n := by
  obtain ⟨q, hq⟩ : ∃ q : Int, q = (((hi * 18446744073709551616 + lo) / y : Nat) : Int) := ⟨_, rfl⟩
  obtain ⟨r, hr⟩ : ∃ q : Int, q = (((hi * 18446744073709551616 + lo) % y : Nat) : Int) := ⟨_, rfl⟩
  obtain ⟨H, hH⟩ : ∃ H : Int, H = hi := ⟨_, rfl⟩
  obtain ⟨L, hL⟩ : ∃ H : Int, H = lo := ⟨_, rfl⟩
  obtain ⟨Y, hY⟩ : ∃ H : Int, H = y := ⟨_, rfl⟩
  have ny : ¬ Y = 0 := by omega
  have nyh : ¬ Y ≤ H := by omega
  have bH : 0 ≤ H ∧ H < 2147483648 := by omega
  have bL : 0 ≤ L ∧ L < 18446744073709551616 := by omega
  have bY : 1 ≤ Y ∧ Y < 2147483648 := by omega
  rw [← hq, ← hr, ← hH, ← hL, ← hY]
  by_cases h0 : hi = 0
  · have nh : H = 0 := by omega
    have eq : L / Y = q := by rw [hL, hY, hq, h0, Nat.zero_mul, Nat.zero_add]; rfl
    have er : L % Y = r := by rw [hL, hY, hr, h0, Nat.zero_mul, Nat.zero_add]; rfl
    have eq' : L.tdiv Y = q := by rw [Int.tdiv_eq_ediv_of_nonneg (by omega)]; exact eq
    have er' : L.tmod Y = r := by rw [Int.tmod_eq_emod_of_nonneg (by omega)]; exact er
    have bq : 0 ≤ q ∧ q < 18446744073709551616 := by
      have hle := Nat.div_le_self lo y
      rw [hq, h0, Nat.zero_mul, Nat.zero_add]
      obtain ⟨k, hk⟩ : ∃ k, k = lo / y := ⟨_, rfl⟩
      rw [← hk] at hle ⊢
      omega
    have W1 : IntKind.u64.wrap q = q := by rw [IntKind.wrap_u64]; omega
    clear hq hr hH hL hY hy hhi hlo h0 bq
    go_enter Try.func66, Try.ntmps66
    go_wp2
    go_quiet (fail)
    go_wp2
    go_ret2
    exact ⟨rfl, _, rfl⟩
  · obtain ⟨s, s1, s2, s3, s4, hC⟩ := leading_any y w hy.1 hy.2
    obtain ⟨V, v, hs, lq, P, u10, z, q1, R, A1, A2, A3, U, q0, r0, B1, B3, B4, hD⟩ := div_vals hi lo y s hy hhi hlo s1 s2 s3 s4
    have HC := hide hC
    clear hC
    have nh : ¬ H = 0 := by omega
    obtain ⟨S, hS⟩ : ∃ S : Int, S = s := ⟨_, rfl⟩
    rw [← hS, ← hY] at HC
    rw [← hH, ← hL, ← hY, ← hS, ← hq, ← hr] at hD
    have bS : 33 ≤ S ∧ S ≤ 63 := by omega
    clear hH hL hY hS s1 s2 s3 s4 hy hhi hlo h0 hq hr
    obtain ⟨f1, f2, n2, f3, f4, f5, f6, f7, f8, f9, f10, f10', b10, f11, f11', b11, bz, f12, f13, f14, f15, f16, f16', b16, f17, f17', b17, f18, f19, f20, f21, f22⟩ := hD
    go_enter Try.func66, Try.ntmps66
    have W8 : IntKind.u64.wrap B1 = B1 := by rw [← f18, IntKind.wrap_u64, IntKind.wrap_u64]; omega
    have t1 : decide (4294967296 ≤ q1) = false := decide_eq_false (by omega)
    have t2 : decide (4294967296 * R + z < 0) = false := decide_eq_false (by omega)
    have t3 : decide (4294967296 ≤ q0) = false := decide_eq_false (by omega)
    have t4 : decide (4294967296 * r0 < 0) = false := decide_eq_false (by omega)
    go_wp2_with (go_at_call 76; refine (HC.out _).mono ?_; rintro e w' ⟨rfl, rfl⟩)
    go_loopw [15, 16] (fun a b wr => a = .int .u64 q1 ∧ b = .int .u64 R ∧ wr = w) (fun _ _ _ => 0)
    case atStart => exact ⟨rfl, rfl, rfl⟩
    case round =>
      obtain ⟨rfl, rfl, rfl⟩ := hrel
      go_wp2
      go_loopw [16, 18] (fun a b wr' => a = .int .u64 r0 ∧ b = .int .u64 q0 ∧ wr' = wr) (fun _ _ _ => 0)
      case atStart => exact ⟨rfl, rfl, rfl⟩
      case round =>
        obtain ⟨rfl, rfl, rfl⟩ := hrel
        go_wp2
        go_ret2
        exact ⟨rfl, 0, rfl⟩
end Go.Proofs.Ytnilfacofikoaaa
