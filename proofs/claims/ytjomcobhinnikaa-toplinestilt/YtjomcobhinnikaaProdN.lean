/- Plain bounds of products. -/
import Derived.Test.YtjomcobhinnikaaFracCase
namespace Go.Proofs.Ytjomcobhinnikaa
open Go.RowKit

theorem prodN {x y : Int} (hx : -1000000000 ≤ x ∧ x ≤ 1000000000) (hy : -1000000000 ≤ y ∧ y ≤ 1000000000) : -1000000000000000000 ≤ x * y ∧ x * y ≤ 1000000000000000000 := by
  have h := mul_bound (x := x) (y := y) 1000000000 1000000000 (by omega) (by omega)
  rw [show (1000000000 * 1000000000 : Nat) = 1000000000000000000 from rfl] at h
  omega
theorem prodD {x y : Int} (hx : 1 ≤ x ∧ x ≤ 1000000000) (hy : 1 ≤ y ∧ y ≤ 1000000000) : 1 ≤ x * y ∧ x * y ≤ 1000000000000000000 := by
  refine ⟨?_, (prodN ⟨by omega, hx.2⟩ ⟨by omega, hy.2⟩).2⟩
  have := Int.mul_le_mul_of_nonneg_left hy.1 (show 0 ≤ x by omega)
  omega

end Go.Proofs.Ytjomcobhinnikaa
