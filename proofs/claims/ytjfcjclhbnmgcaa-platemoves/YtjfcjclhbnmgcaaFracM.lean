/- Fractions in lowest terms: plain mathematics. -/
import Derived.Test.YtjfcjclhbnmgcaaPitch
namespace Go.Proofs.Ytjfcjclhbnmgcaa
open Go.RowKit

theorem gcdAll_two (n d : Int) : gcdAll [n, d] = Nat.gcd n.natAbs d.natAbs := by simp [gcdAll]
/-- A fraction's error: not in lowest terms (3), too great (2), or none. -/
def lowF (n d : Int) : Prop := 1 ≤ d ∧ Nat.gcd n.natAbs d.natAbs = 1
def okF (n d : Int) : Prop := lowF n d ∧ (-1000000000 ≤ n ∧ n ≤ 1000000000) ∧ d ≤ 1000000000
instance (n d : Int) : Decidable (lowF n d) := inferInstanceAs (Decidable (_ ∧ _))
instance (n d : Int) : Decidable (okF n d) := inferInstanceAs (Decidable (_ ∧ _))
def fracErr (n d : Int) : Int := if lowF n d then (if okF n d then 0 else 2) else 3

/-- num / den in lowest terms: is it a valid fraction? Its parts, or zeros, and its error. -/
def gcdF (n d : Int) : Nat := Nat.gcd n.natAbs d.natAbs
def fitF (n d : Int) : Prop := okF (n.tdiv (gcdF n d)) (d / (gcdF n d))
instance (n d : Int) : Decidable (fitF n d) := inferInstanceAs (Decidable (okF _ _))
def lN (n d : Int) : Int := if fitF n d then n.tdiv (gcdF n d) else 0
def lD (n d : Int) : Int := if fitF n d then d / (gcdF n d) else 0
def lE (n d : Int) : Int := if fitF n d then 0 else 8
theorem gcdF_pos {n d : Int} (h : 1 ≤ d) : 1 ≤ gcdF n d := Nat.gcd_pos_of_pos_right _ (by omega)
theorem gcdF_le {n d : Int} (h : 1 ≤ d) : (gcdF n d : Int) ≤ d := by
  have := Nat.gcd_le_right n.natAbs (n := d.natAbs) (by omega)
  unfold gcdF
  omega
theorem tdiv_in {a : Int} {g : Nat} (h : -9223372036854775808 ≤ a ∧ a ≤ 9223372036854775807) (h2 : -9223372036854775807 ≤ a) : -9223372036854775807 ≤ a.tdiv g ∧ a.tdiv g ≤ 9223372036854775807 := by
  have e : (a.tdiv g).natAbs = a.natAbs / (g : Int).natAbs := Int.natAbs_tdiv a g
  have l := Nat.div_le_self a.natAbs (g : Int).natAbs
  omega
/-- What lowest makes is in lowest terms. -/
theorem lowF_lowest {n d : Int} (h : 1 ≤ d) : lowF (n.tdiv (gcdF n d)) (d / (gcdF n d)) := by
  have hg := gcdF_pos (n := n) h
  refine ⟨by rw [Int.le_ediv_iff_mul_le (by omega)]; have := gcdF_le (n := n) h; omega, ?_⟩
  rw [Int.natAbs_tdiv]
  have e : (d / (gcdF n d : Int)).natAbs = d.natAbs / gcdF n d := by
    obtain ⟨m, rfl⟩ := Int.eq_ofNat_of_zero_le (show 0 ≤ d by omega)
    rw [← Int.natCast_ediv]
    rfl
  rw [e]
  exact Nat.gcd_div_gcd_div_gcd_of_pos_right (by omega)

end Go.Proofs.Ytjfcjclhbnmgcaa
