/- The contract of agraffebase.Ints: are two lists of numbers equal? -/
import Derived.Test.YtjomcobhinnikaaSmall
import Derived.Deep.QuietTactic
import Derived.BigQuiet
namespace Go.Proofs.Ytjomcobhinnikaa
open Go.RowKit

/-- The slice value at A reads as xs. -/
def Rd (w : World) (A : Option Addr) (xs : List Int) : Prop :=
  0 < xs.length → ∃ b off, A = some ⟨b, off, none⟩ ∧ ∀ i, i < xs.length → w.cell? ⟨b, off + i, none⟩ = some (.int .i64 (xs.getD i 0))

set_option maxHeartbeats 400000 in
theorem ints_len (A1 A2 : Option Addr) (n m c1 c2 : Nat) (w : World) (hne : n ≠ m) :
    Calls Try.prog 20 #[.slice A1 n c1, .slice A2 m c2] w fun e w' => e = .returned (.bool false) ∧ ∃ k, w.drewN k = w' := by
  have h2 : ((n : Int) != (m : Int)) = true := by rw [bne_iff_ne]; omega
  go_enter Try.func20, Try.ntmps20
  go_wp2
  go_ret
  exact ⟨rfl, 0, rfl⟩

set_option maxHeartbeats 1000000 in
theorem ints_same (A1 A2 : Option Addr) (n c1 c2 : Nat) (xs ys : List Int) (w : World) (hx : xs.length = n) (hy : ys.length = n) (hn : n ≤ 1000000) (h1 : Rd w A1 xs) (h2 : Rd w A2 ys) :
    Calls Try.prog 20 #[.slice A1 n c1, .slice A2 n c2] w fun e w' => e = .returned (.bool (decide (xs = ys))) ∧ ∃ k, w.drewN k = w' := by
  have HX := hide hx
  have HY := hide hy
  have H1 := hide h1
  have H2 := hide h2
  clear hx hy h1 h2
  go_enter Try.func20, Try.ntmps20
  go_wp2
  go_loopw [5] (fun i wr => ∃ k q : Nat, k ≤ n ∧ i = .int .i64 k ∧ Hid (xs.take k = ys.take k) ∧ wr = w.drewN q) (fun i _ => n - (intOf i).toNat)
  case atStart => exact ⟨0, 0, by omega, rfl, by simp [Hid], rfl⟩
  case round =>
    obtain ⟨k, q, hk, rfl, HE, rfl⟩ := hrel
    by_cases hlt : k < n
    · obtain ⟨b1, o1, rfl, k1⟩ := H1.out (by rw [HX.out]; omega)
      obtain ⟨b2, o2, rfl, k2⟩ := H2.out (by rw [HY.out]; omega)
      have qx := k1 k (by rw [HX.out]; exact hlt)
      have qy := k2 k (by rw [HY.out]; exact hlt)
      obtain ⟨x, hxe⟩ : ∃ x, x = xs.getD k 0 := ⟨_, rfl⟩
      obtain ⟨y, hye⟩ : ∃ y, y = ys.getD k 0 := ⟨_, rfl⟩
      rw [← hxe] at qx
      rw [← hye] at qy
      have EX : Hid (xs.take (k + 1) = xs.take k ++ [x]) := by
        show xs.take (k + 1) = _
        rw [List.take_succ_eq_append_getElem (by rw [HX.out]; exact hlt), hxe]
        have : k < xs.length := by rw [HX.out]; exact hlt
        simp [this]
      have EY : Hid (ys.take (k + 1) = ys.take k ++ [y]) := by
        show ys.take (k + 1) = _
        rw [List.take_succ_eq_append_getElem (by rw [HY.out]; exact hlt), hye]
        have : k < ys.length := by rw [HY.out]; exact hlt
        simp [this]
      clear hxe hye k1 k2
      by_cases hxy : x = y
      · have hne : (x != y) = false := by rw [bne_eq_false_iff_eq]; exact hxy
        have HN : Hid (xs.take (k + 1) = ys.take (k + 1)) := by show xs.take (k + 1) = _; rw [EX.out, EY.out, HE.out, hxy]
        clear hxy
        go_wp2
        go_quiet (fail)
        go_wp2
        go_roundw
        case rel => exact ⟨k + 1, _, by omega, by go_num, HN, rfl⟩
        case measure => simp [intOf]; omega
      · have hne : (x != y) = true := by rw [bne_iff_ne]; exact hxy
        have HN : Hid (decide (xs = ys) = false) := by
          refine decide_eq_false fun e => hxy ?_
          have h3 := EX.out
          rw [e, EY.out, ← HE.out] at h3
          have := List.append_cancel_left h3
          simpa using this.symm
        clear hxy
        go_wp2
        go_quiet (fail)
        go_wp2
        go_ret
        exact ⟨ret_bool HN.out.symm, _, (World.drewN_drewN _ _ _).symm⟩
    · obtain rfl : k = n := by omega
      have HN : Hid (decide (xs = ys) = true) := by
        refine decide_eq_true ?_
        have h3 := HE.out
        rw [List.take_of_length_le (by rw [HX.out]; exact Nat.le_refl _), List.take_of_length_le (by rw [HY.out]; exact Nat.le_refl _)] at h3
        exact h3
      go_wp2
      go_ret
      exact ⟨ret_bool HN.out.symm, _, rfl⟩
end Go.Proofs.Ytjomcobhinnikaa
