/- Sums and moments of forces: their bounds, and how a moment about another place comes out. Plain mathematics; every bound is a premise. -/
import Derived.Test.YtjfcjclhbnmgcaaPlChk
namespace Go.Proofs.Ytjfcjclhbnmgcaa
open Go.RowKit

/-- Is the k-th force right? -/
def okPu (z : Nat → Nat → Int) (k : Nat) : Bool := inV (z k 0) (z k 1) (z k 2) 1000000 && inV (z k 3) (z k 4) (z k 5) 1000000000
def frcTo (z : Nat → Nat → Int) : Nat → Bool
  | 0 => true
  | k + 1 => frcTo z k && okPu z k
def frcE (z : Nat → Nat → Int) (n : Nat) : Int := if (300 : Int) < n then 8 else if frcTo z n = true then 0 else 2
theorem frc_bad {z : Nat → Nat → Int} {k : Nat} (h : okPu z k = false) : ∀ n, k < n → frcTo z n = false
  | 0, hk => by omega
  | n + 1, hk => by
    rw [frcTo]
    rcases Nat.lt_or_ge k n with h1 | h1
    · rw [frc_bad h n h1]; rfl
    · obtain rfl : k = n := by omega
      rw [h, Bool.and_false]
structure FrcIn (z : Nat → Nat → Int) (k : Nat) : Prop where
  p0 : -1000000 ≤ z k 0 ∧ z k 0 ≤ 1000000
  p1 : -1000000 ≤ z k 1 ∧ z k 1 ≤ 1000000
  p2 : -1000000 ≤ z k 2 ∧ z k 2 ≤ 1000000
  f0 : -1000000000 ≤ z k 3 ∧ z k 3 ≤ 1000000000
  f1 : -1000000000 ≤ z k 4 ∧ z k 4 ≤ 1000000000
  f2 : -1000000000 ≤ z k 5 ∧ z k 5 ≤ 1000000000
theorem okPu_in {z : Nat → Nat → Int} {k : Nat} (h : okPu z k = true) : FrcIn z k := by
  unfold okPu inV inB at h
  simp only [Bool.and_eq_true, decide_eq_true_eq] at h
  obtain ⟨⟨h0, h1, h2⟩, h3, h4, h5⟩ := h
  exact ⟨h0, h1, h2, h3, h4, h5⟩
theorem in_okPu {z : Nat → Nat → Int} {k : Nat} (h : FrcIn z k) : okPu z k = true := by
  obtain ⟨h0, h1, h2, h3, h4, h5⟩ := h
  unfold okPu inV inB
  simp only [Bool.and_eq_true, decide_eq_true_eq]
  exact ⟨⟨h0, h1, h2⟩, h3, h4, h5⟩
theorem frcTo_in {z : Nat → Nat → Int} : ∀ n, frcTo z n = true → ∀ k, k < n → FrcIn z k
  | 0, _, k, hk => by omega
  | n + 1, h, k, hk => by
    rw [frcTo, Bool.and_eq_true] at h
    rcases Nat.lt_or_ge k n with h1 | h1
    · exact frcTo_in n h.1 k h1
    · obtain rfl : k = n := by omega
      exact okPu_in h.2
theorem in_frcTo {z : Nat → Nat → Int} : ∀ n, (∀ k, k < n → FrcIn z k) → frcTo z n = true
  | 0, _ => rfl
  | n + 1, h => by
    rw [frcTo, in_frcTo n (fun k hk => h k (by omega)), in_okPu (h n (by omega))]; rfl
theorem frcE_in {z : Nat → Nat → Int} {n : Nat} (h : frcE z n = 0) : n ≤ 300 ∧ ∀ k, k < n → FrcIn z k := by
  unfold frcE at h
  by_cases h0 : (300 : Int) < n
  · rw [if_pos h0] at h; omega
  · rw [if_neg h0] at h
    by_cases h1 : frcTo z n = true
    · exact ⟨by omega, frcTo_in n h1⟩
    · rw [if_neg h1] at h; omega
theorem in_frcE {z : Nat → Nat → Int} {n : Nat} (hn : n ≤ 300) (h : ∀ k, k < n → FrcIn z k) : frcE z n = 0 := by
  unfold frcE
  rw [if_neg (by omega), if_pos (in_frcTo n h)]
theorem frcE_cases (z : Nat → Nat → Int) (n : Nat) : frcE z n = 0 ∨ (frcE z n = 2 ∨ frcE z n = 8) := by
  unfold frcE
  split
  · simp
  · split <;> simp

/-- The sum of the forces' j-th components, of the first k. -/
def sumTo (z : Nat → Nat → Int) (j : Nat) : Nat → Int
  | 0 => 0
  | k + 1 => sumTo z j k + z k j
def cr (p q r s : Int) : Int := p * s - q * r
/-- A component of their moment about a place: i and j are the other two axes, a and b the place's coordinates there, f and g the force's components. -/
def momTo (z : Nat → Nat → Int) (i j f g : Nat) (a b : Int) : Nat → Int
  | 0 => 0
  | k + 1 => momTo z i j f g a b k + cr (z k i - a) (z k j - b) (z k f) (z k g)
theorem cr_in {p q r s : Int} (hp : -2000000 ≤ p ∧ p ≤ 2000000) (hq : -2000000 ≤ q ∧ q ≤ 2000000) (hr : -1000000000 ≤ r ∧ r ≤ 1000000000) (hs : -1000000000 ≤ s ∧ s ≤ 1000000000) :
    (-2000000000000000 ≤ p * s ∧ p * s ≤ 2000000000000000) ∧ (-2000000000000000 ≤ q * r ∧ q * r ≤ 2000000000000000) ∧ (-4000000000000000 ≤ cr p q r s ∧ cr p q r s ≤ 4000000000000000) := by
  have k1 := mul_bound (x := p) (y := s) 2000000 1000000000 (by omega) (by omega)
  have k2 := mul_bound (x := q) (y := r) 2000000 1000000000 (by omega) (by omega)
  rw [show (2000000 * 1000000000 : Nat) = 2000000000000000 from rfl] at k1 k2
  unfold cr
  omega
theorem sumTo_in {z : Nat → Nat → Int} {j : Nat} {n : Nat} (h : ∀ k, k < n → -1000000000 ≤ z k j ∧ z k j ≤ 1000000000) : ∀ k, k ≤ n → -1000000000 * (k : Int) ≤ sumTo z j k ∧ sumTo z j k ≤ 1000000000 * (k : Int)
  | 0, _ => by simp [sumTo]
  | k + 1, hk => by
    have h1 := sumTo_in h k (by omega)
    have h2 := h k (by omega)
    rw [sumTo]
    omega
structure CrIn (z : Nat → Nat → Int) (i j f g : Nat) (k : Nat) : Prop where
  i : -1000000 ≤ z k i ∧ z k i ≤ 1000000
  j : -1000000 ≤ z k j ∧ z k j ≤ 1000000
  f : -1000000000 ≤ z k f ∧ z k f ≤ 1000000000
  g : -1000000000 ≤ z k g ∧ z k g ≤ 1000000000
theorem momTo_in {z : Nat → Nat → Int} {i j f g : Nat} {a b : Int} {n : Nat} (h : ∀ k, k < n → CrIn z i j f g k) (ha : -1000000 ≤ a ∧ a ≤ 1000000) (hb : -1000000 ≤ b ∧ b ≤ 1000000) :
    ∀ k, k ≤ n → -4000000000000000 * (k : Int) ≤ momTo z i j f g a b k ∧ momTo z i j f g a b k ≤ 4000000000000000 * (k : Int)
  | 0, _ => by simp [momTo]
  | k + 1, hk => by
    have h1 := momTo_in h ha hb k (by omega)
    obtain ⟨c1, c2, c3, c4⟩ := h k (by omega)
    have h2 := (cr_in (p := z k i - a) (q := z k j - b) (r := z k f) (s := z k g) (by omega) (by omega) c3 c4).2.2
    rw [momTo]
    omega
theorem FrcIn.c0 {z : Nat → Nat → Int} {k : Nat} (h : FrcIn z k) : CrIn z 1 2 4 5 k := ⟨h.p1, h.p2, h.f1, h.f2⟩
theorem FrcIn.c1 {z : Nat → Nat → Int} {k : Nat} (h : FrcIn z k) : CrIn z 2 0 5 3 k := ⟨h.p2, h.p0, h.f2, h.f0⟩
theorem FrcIn.c2 {z : Nat → Nat → Int} {k : Nat} (h : FrcIn z k) : CrIn z 0 1 3 4 k := ⟨h.p0, h.p1, h.f0, h.f1⟩
/-- The moment about a place, out of that about the origin. -/
theorem mom_shift (z : Nat → Nat → Int) (i j f g : Nat) (a b : Int) : ∀ k, momTo z i j f g a b k = momTo z i j f g 0 0 k - cr a b (sumTo z f k) (sumTo z g k)
  | 0 => by simp [momTo, sumTo, cr]
  | k + 1 => by
    rw [momTo, momTo, sumTo, sumTo, mom_shift z i j f g a b k]
    unfold cr
    rw [Int.sub_zero, Int.sub_zero, Int.sub_mul, Int.sub_mul, Int.mul_add, Int.mul_add]
    omega
/-- All three components. -/
def sum3 (z : Nat → Nat → Int) (n : Nat) : Value := .agg #[.int .i64 (sumTo z 3 n), .int .i64 (sumTo z 4 n), .int .i64 (sumTo z 5 n)]
def mom3 (z : Nat → Nat → Int) (a b c : Int) (n : Nat) : Value := .agg #[.int .i64 (momTo z 1 2 4 5 b c n), .int .i64 (momTo z 2 0 5 3 c a n), .int .i64 (momTo z 0 1 3 4 a b n)]
theorem sum3_in {z : Nat → Nat → Int} {n : Nat} (hn : n ≤ 305) (h : ∀ k, k < n → FrcIn z k) : (-305000000000 ≤ sumTo z 3 n ∧ sumTo z 3 n ≤ 305000000000) ∧ (-305000000000 ≤ sumTo z 4 n ∧ sumTo z 4 n ≤ 305000000000) ∧ (-305000000000 ≤ sumTo z 5 n ∧ sumTo z 5 n ≤ 305000000000) := by
  have h3 := sumTo_in (fun k hk => (h k hk).f0) n (Nat.le_refl _)
  have h4 := sumTo_in (fun k hk => (h k hk).f1) n (Nat.le_refl _)
  have h5 := sumTo_in (fun k hk => (h k hk).f2) n (Nat.le_refl _)
  omega
theorem mom3_in {z : Nat → Nat → Int} {n : Nat} {a b c : Int} (hn : n ≤ 305) (h : ∀ k, k < n → FrcIn z k) (ha : -1000000 ≤ a ∧ a ≤ 1000000) (hb : -1000000 ≤ b ∧ b ≤ 1000000) (hc : -1000000 ≤ c ∧ c ≤ 1000000) : (-1220000000000000000 ≤ momTo z 1 2 4 5 b c n ∧ momTo z 1 2 4 5 b c n ≤ 1220000000000000000) ∧ (-1220000000000000000 ≤ momTo z 2 0 5 3 c a n ∧ momTo z 2 0 5 3 c a n ≤ 1220000000000000000) ∧ (-1220000000000000000 ≤ momTo z 0 1 3 4 a b n ∧ momTo z 0 1 3 4 a b n ≤ 1220000000000000000) := by
  have h3 := momTo_in (fun k hk => (h k hk).c0) hb hc n (Nat.le_refl _)
  have h4 := momTo_in (fun k hk => (h k hk).c1) hc ha n (Nat.le_refl _)
  have h5 := momTo_in (fun k hk => (h k hk).c2) ha hb n (Nat.le_refl _)
  omega
end Go.Proofs.Ytjfcjclhbnmgcaa
