/- What an enclosure is, told without the order of the search. -/
import Derived.Test.YtfmonpjoadjimabLive
import Derived.Test.YtfmonpjoadjimabEnclose
import Derived.Test.YtfmonpjoadjimabSgn
namespace Go.Proofs.Ytfmonpjoadjimab
open Go.RowKit
set_option linter.unusedVariables false
set_option linter.unusedSimpArgs false

/-- The enclosure lo, hi, or the error e: n is at most the multiple just if F n^d is at most G. -/
def EncV (d F G : Nat) (lo hi e : Int) : Prop := ∃ n : Nat, n ≤ 1000000000000000 ∧ F * n ^ d ≤ G ∧ (n < 1000000000000000 → G < F * (n + 1) ^ d) ∧
  ((F * n ^ d = G ∧ lo = n ∧ hi = n ∧ e = 0) ∨ (F * n ^ d ≠ G ∧ n < 1000000000000000 ∧ lo = n ∧ hi = n + 1 ∧ e = 0) ∨ (F * n ^ d ≠ G ∧ n = 1000000000000000 ∧ lo = 0 ∧ hi = 0 ∧ e = 8))
theorem enc_le {d F a b : Nat} (h : a ≤ b) : F * a ^ d ≤ F * b ^ d := Nat.mul_le_mul_left _ (Nat.pow_le_pow_left h d)
theorem enc_lt {d F a b : Nat} (hd : 1 ≤ d) (hF : 1 ≤ F) (h : a < b) : F * a ^ d < F * b ^ d := Nat.mul_lt_mul_of_pos_left (Nat.pow_lt_pow_left h (by omega)) hF
theorem EncV.one {d F G : Nat} {lo hi e lo' hi' e' : Int} (h : EncV d F G lo hi e) (k : EncV d F G lo' hi' e') : lo = lo' ∧ hi = hi' ∧ e = e' := by
  obtain ⟨n, n1, n2, n3, n4⟩ := h
  obtain ⟨m, m1, m2, m3, m4⟩ := k
  have hnm : n = m := by
    rcases Nat.lt_trichotomy n m with h | h | h
    · have := enc_le (d := d) (F := F) (show n + 1 ≤ m by omega)
      have := n3 (by omega)
      omega
    · exact h
    · have := enc_le (d := d) (F := F) (show m + 1 ≤ n by omega)
      have := m3 (by omega)
      omega
  subst hnm
  rcases n4 with ⟨a1, a2, a3, a4⟩ | ⟨a1, a2, a3, a4, a5⟩ | ⟨a1, a2, a3, a4, a5⟩ <;> rcases m4 with ⟨b1, b2, b3, b4⟩ | ⟨b1, b2, b3, b4, b5⟩ | ⟨b1, b2, b3, b4, b5⟩ <;> first | exact absurd a1 b1 | exact absurd b1 a1 | omega
theorem EncV.scale {g D F G : Nat} {lo hi e : Int} (hg : 1 ≤ g) (h : EncV D F G lo hi e) : EncV (g * D) (F ^ g) (G ^ g) lo hi e := by
  have e1 : ∀ n : Nat, F ^ g * n ^ (g * D) = (F * n ^ D) ^ g := fun n => by rw [Nat.mul_pow, ← Nat.pow_mul, Nat.mul_comm g D]
  obtain ⟨n, n1, n2, n3, n4⟩ := h
  refine ⟨n, n1, by rw [e1]; exact Nat.pow_le_pow_left n2 g, fun hn => by rw [e1]; exact Nat.pow_lt_pow_left (n3 hn) (by omega), ?_⟩
  have ne : F * n ^ D ≠ G → F ^ g * n ^ (g * D) ≠ G ^ g := fun hne => by
    rw [e1]
    rcases Nat.lt_or_gt_of_ne hne with h | h
    · exact Nat.ne_of_lt (Nat.pow_lt_pow_left h (by omega))
    · exact Nat.ne_of_gt (Nat.pow_lt_pow_left h (by omega))
  rcases n4 with ⟨a1, a2⟩ | ⟨a1, a2⟩ | ⟨a1, a2⟩
  · exact Or.inl ⟨by rw [e1, a1], a2⟩
  · exact Or.inr (Or.inl ⟨ne a1, a2⟩)
  · exact Or.inr (Or.inr ⟨ne a1, a2⟩)
theorem EncV.width {d F G : Nat} {lo hi e : Int} (h : EncV d F G lo hi e) : 0 ≤ hi - lo ∧ hi - lo ≤ 1 ∧ 0 ≤ lo ∧ hi ≤ 1000000000000000 ∧ (e = 0 ∨ e = 8 ∧ lo = 0 ∧ hi = 0) := by
  obtain ⟨n, n1, n2, n3, n4⟩ := h
  omega
/-- What the search ends with: x is the greatest number up to 10^15 + 1. -/
theorem enc_end {d F G x : Nat} (hd : 1 ≤ d) (hF : 1 ≤ F) (hx : x ≤ 1000000000000001) (h1 : F * x ^ d ≤ G) (h2 : x < 1000000000000001 → G < F * (x + 1) ^ d) :
    (F * x ^ d = G ∧ x ≤ 1000000000000000 → EncV d F G x x 0) ∧ (F * x ^ d = G ∧ 1000000000000000 < x → EncV d F G 0 0 8) ∧ (F * x ^ d ≠ G ∧ x + 1 ≤ 1000000000000000 → EncV d F G x (x + 1) 0) ∧ (F * x ^ d ≠ G ∧ 1000000000000000 < x + 1 → EncV d F G 0 0 8) := by
  refine ⟨fun h => ⟨x, h.2, h1, fun hh => h2 (by omega), Or.inl ⟨h.1, rfl, rfl, rfl⟩⟩, fun h => ?_, fun h => ⟨x, by omega, h1, fun hh => h2 (by omega), Or.inr (Or.inl ⟨h.1, by omega, rfl, rfl, rfl⟩)⟩, fun h => ?_⟩
  · have := enc_lt hd hF (show 1000000000000000 < x by omega)
    exact ⟨1000000000000000, Nat.le_refl _, by omega, fun hh => absurd hh (by omega), Or.inr (Or.inr ⟨by omega, rfl, rfl, rfl, rfl⟩)⟩
  · rcases Nat.lt_or_ge 1000000000000000 x with hlt | hge
    · have := enc_lt hd hF hlt
      exact ⟨1000000000000000, Nat.le_refl _, by omega, fun hh => absurd hh (by omega), Or.inr (Or.inr ⟨by omega, rfl, rfl, rfl, rfl⟩)⟩
    · obtain rfl : x = 1000000000000000 := by omega
      exact ⟨1000000000000000, Nat.le_refl _, h1, fun hh => absurd hh (by omega), Or.inr (Or.inr ⟨h.1, rfl, rfl, rfl, rfl⟩)⟩

def RefEncDone (w : World) (d F G : Nat) (e : Ending) (w' : World) : Prop :=
  ∃ lo hi er : Int, e = .returned (.tuple #[.agg #[.int .i64 lo, .int .i64 hi], .int .i64 er]) ∧ EncV d F G lo hi er ∧ Below w.heap.size w w'

end Go.Proofs.Ytfmonpjoadjimab
