/- The contract of number.commonDivisor: the greatest common divisor of the numbers' sizes. The slice is one that the caller has built. -/
import Derived.Test.YtjfcjclhbnmgcaaSmall
import Derived.Deep.QuietTactic
import Derived.BigQuiet
namespace Go.Proofs.Ytjfcjclhbnmgcaa
open Go.RowKit

/-- The greatest common divisor of the sizes of numbers. -/
def gcdAll (zs : List Int) : Nat := zs.foldl (fun g z => Nat.gcd g z.natAbs) 0
theorem gcdAll_snoc (zs : List Int) (z : Int) : gcdAll (zs ++ [z]) = Nat.gcd (gcdAll zs) z.natAbs := by simp [gcdAll]
theorem gcdAll_step (zs : List Int) (k : Nat) (h : k < zs.length) : gcdAll (zs.take (k + 1)) = Nat.gcd (gcdAll (zs.take k)) (zs.getD k 0).natAbs := by
  rw [List.take_succ_eq_append_getElem h, gcdAll_snoc]
  simp [h]
theorem gcd_le {g m B : Nat} (h0 : g ≤ B) (h1 : m ≤ B) : Nat.gcd g m ≤ B := by
  rcases Nat.eq_zero_or_pos m with h | h
  · subst h; simpa using h0
  · exact Nat.le_trans (Nat.gcd_le_right g h) h1
theorem foldl_gcd_le {B : Nat} : ∀ (zs : List Int) (g : Nat), g ≤ B → (∀ z ∈ zs, z.natAbs ≤ B) → zs.foldl (fun g z => Nat.gcd g z.natAbs) g ≤ B
  | [], g, hg, _ => hg
  | z :: zs, g, hg, h => foldl_gcd_le zs _ (gcd_le hg (h z (by simp))) fun y hy => h y (by simp [hy])
theorem gcdAll_le (zs : List Int) (h : ∀ z ∈ zs, -9223372036854775808 ≤ z ∧ z ≤ 9223372036854775807) : gcdAll zs ≤ 9223372036854775808 :=
  foldl_gcd_le zs 0 (by omega) fun z hz => by have := h z hz; omega
theorem gcdAll_take_le (zs : List Int) (k : Nat) (h : ∀ z ∈ zs, -9223372036854775808 ≤ z ∧ z ≤ 9223372036854775807) : gcdAll (zs.take k) ≤ 9223372036854775808 :=
  gcdAll_le _ fun z hz => h z (List.mem_of_mem_take hz)
theorem getD_bound (zs : List Int) (k : Nat) (h : ∀ z ∈ zs, -9223372036854775808 ≤ z ∧ z ≤ 9223372036854775807) : -9223372036854775808 ≤ zs.getD k 0 ∧ zs.getD k 0 ≤ 9223372036854775807 := by
  by_cases hk : k < zs.length
  · have e : zs.getD k 0 = zs[k] := by simp [hk]
    rw [e]; exact h _ (List.getElem_mem hk)
  · have e : zs.getD k 0 = 0 := by simp [Nat.not_lt.1 hk]
    rw [e]; omega

set_option maxHeartbeats 400000 in
theorem commonDivisor_any (b len cap : Nat) (zs : List Int) (w : World) (hl : zs.length = len) (hlen : len ≤ 1000)
    (hc : ∀ j, j < len → w.cell? ⟨b, j, none⟩ = some (.int .i64 (zs.getD j 0))) (hz : ∀ z ∈ zs, -9223372036854775808 ≤ z ∧ z ≤ 9223372036854775807) (hG : gcdAll zs ≤ 9223372036854775807) :
    Calls Try.prog 135 #[.slice (some ⟨b, 0, none⟩) len cap] w fun e w' => e = .returned (.int .i64 (gcdAll zs : Int)) ∧ ∃ n, w.drewN n = w' := by
  have hL := hide hl
  clear hl
  have HG := hide hG
  clear hG
  go_enter Try.func135, Try.ntmps135
  go_wp2
  go_loopw [3, 9] (fun d i wr => ∃ k n : Nat, k ≤ len ∧ i = .int .i64 k ∧ d = .int .u64 (gcdAll (zs.take k) : Int) ∧ wr = w.drewN n) (fun _ i _ => len - (intOf i).toNat)
  case atStart => exact ⟨0, 0, by omega, rfl, rfl, rfl⟩
  case round =>
    obtain ⟨k, n, hk, rfl, rfl, rfl⟩ := hrel
    by_cases hlt : k < len
    · have hcell := hc k hlt
      have hzb := getD_bound zs k hz
      have hg := gcdAll_take_le zs k hz
      have HS := hide (gcdAll_step zs k (by rw [hL.out]; exact hlt))
      obtain ⟨z, hze⟩ : ∃ z, z = zs.getD k 0 := ⟨_, rfl⟩
      obtain ⟨g, hge⟩ : ∃ g, g = gcdAll (zs.take k) := ⟨_, rfl⟩
      rw [← hze] at hcell hzb HS
      rw [← hge] at hg HS ⊢
      clear hze hge hc hz
      go_wp2_with (go_at_call 142; refine (size_any _ _ (by omega) (by omega)).mono ?_; rintro e w' ⟨rfl, rfl⟩)
      go_loopw [3, 6] (fun d r wr => ∃ x y m : Nat, d = .int .u64 x ∧ r = .int .u64 y ∧ Hid (Nat.gcd x y = Nat.gcd g z.natAbs) ∧ x ≤ 9223372036854775808 ∧ y ≤ 9223372036854775808 ∧ wr = w.drewN m) (fun _ r _ => (intOf r).toNat)
      case atStart => exact ⟨g, z.natAbs, n, rfl, rfl, rfl, by omega, by omega, rfl⟩
      case round =>
        obtain ⟨x, y, m, rfl, rfl, H, hx, hy, rfl⟩ := hrel
        by_cases hy0 : 0 < y
        · have hm := Nat.mod_lt x hy0
          go_wp2
          go_quiet (fail)
          go_wp2
          go_roundw
          case rel => exact ⟨y, x % y, m + nq, rfl, by go_num, hide (by rw [← H.out, Nat.gcd_comm x y, Nat.gcd_rec y x, Nat.gcd_comm]), by omega, by omega, by rw [World.drewN_drewN]⟩
          case measure => simp [intOf]; omega
        · obtain rfl : y = 0 := by omega
          go_wp2
          go_roundw
          case rel => exact ⟨k + 1, m, by omega, by go_num, by rw [HS.out, ← H.out, Nat.gcd_zero_right], rfl⟩
          case measure => simp [intOf]; omega
    · obtain rfl : k = len := by omega
      have hG : gcdAll zs ≤ 9223372036854775807 := HG.out
      have ht : zs.take k = zs := by rw [← hL.out, List.take_length]
      rw [ht]
      clear ht hc hz
      go_wp2
      go_ret
      exact ⟨rfl, n, rfl⟩
end Go.Proofs.Ytjfcjclhbnmgcaa
