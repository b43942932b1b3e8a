/- The errors of fractions, by cases. -/
import Derived.Test.YtjomcobhinnikaaFrac
namespace Go.Proofs.Ytjomcobhinnikaa
open Go.RowKit

/-- The error of two fractions: the first one's comes first. -/
def fracsErr (a b c d : Int) : Int := if fracErr a b = 0 then fracErr c d else fracErr a b
theorem fracErr_cases (a b : Int) : (fracErr a b = 0 ∧ okF a b) ∨ fracErr a b = 2 ∨ fracErr a b = 3 := by
  unfold fracErr
  by_cases h1 : lowF a b
  · rw [if_pos h1]
    by_cases h2 : okF a b
    · rw [if_pos h2]; exact Or.inl ⟨rfl, h2⟩
    · rw [if_neg h2]; exact Or.inr (Or.inl rfl)
  · rw [if_neg h1]; exact Or.inr (Or.inr rfl)
theorem fracsErr_cases (a b c d : Int) : (fracsErr a b c d = 0 ∧ okF a b ∧ okF c d) ∨ fracsErr a b c d = 2 ∨ fracsErr a b c d = 3 := by
  unfold fracsErr
  rcases fracErr_cases a b with ⟨h, h'⟩ | h | h
  · rw [if_pos h]
    rcases fracErr_cases c d with ⟨k, k'⟩ | k | k
    · exact Or.inl ⟨k, h', k'⟩
    · exact Or.inr (Or.inl k)
    · exact Or.inr (Or.inr k)
  · rw [if_neg (by omega)]; exact Or.inr (Or.inl h)
  · rw [if_neg (by omega)]; exact Or.inr (Or.inr h)

end Go.Proofs.Ytjomcobhinnikaa
