/- The contract of agraffebase.Fracs for two equal rows. Every bound is a premise of the theorem that bears it. -/
import Derived.Test.YtjfcjclhbnmgcaaPlBars
import Derived.BigQuiet
import Derived.Deep.QuietTactic
namespace Go.Proofs.Ytjfcjclhbnmgcaa
open Go.RowKit
set_option linter.unusedVariables false
set_option linter.unusedSimpArgs false

set_option maxHeartbeats 1000000 in
set_option maxRecDepth 100000 in
theorem fracs_same (A1 A2 : Option Addr) (n c1 c2 : Nat) (z : Nat → Nat → Int) (w : World) (hn : n ≤ 100000) (h1 : Row2 w w.heap.size A1 n z) (h2 : Row2 w w.heap.size A2 n z) :
    Calls Try.prog 41 #[.slice A1 n c1, .slice A2 n c2] w fun e w' => e = .returned (.bool true) ∧ Below w.heap.size w w' := by
  have H1 := hide h1
  have H2 := hide h2
  clear h1 h2
  go_enter Try.func41, Try.ntmps41
  go_wp2
  go_loopw [5] (fun i wr => ∃ k m : Nat, k ≤ n ∧ i = .int .i64 k ∧ wr = w.drewN m) (fun i _ => n - (intOf i).toNat)
  case atStart => exact ⟨0, 0, by omega, rfl, rfl⟩
  case round =>
    obtain ⟨k, m, hk, rfl, rfl⟩ := hrel
    by_cases hlt : k < n
    · obtain ⟨b, off, rfl, hb, hc⟩ := H1.out (by omega)
      obtain ⟨b2, off2, rfl, hb2, hc2⟩ := H2.out (by omega)
      obtain ⟨q1, q2⟩ := hc k hlt
      obtain ⟨r1, r2⟩ := hc2 k hlt
      clear hc hc2
      obtain ⟨x, hx⟩ : ∃ x, x = z k 0 := ⟨_, rfl⟩
      obtain ⟨y, hy⟩ : ∃ x, x = z k 1 := ⟨_, rfl⟩
      rw [← hx] at q1 r1
      rw [← hy] at q2 r2
      clear hx hy
      have hlt' : (k : Int) < (n : Int) := by omega
      have hk0 : (0 : Int) ≤ (k : Int) := by omega
      go_wp2
      go_quiet (fail)
      go_wp2
      go_roundw
      case rel => exact ⟨k + 1, m + nq, by omega, by go_num, rfl⟩
      case measure => simp [intOf]; omega
    · obtain rfl : n = k := by omega
      go_wp2
      go_ret
      exact ⟨rfl, below_drewN (Below.refl _ _) m⟩
end Go.Proofs.Ytjfcjclhbnmgcaa
