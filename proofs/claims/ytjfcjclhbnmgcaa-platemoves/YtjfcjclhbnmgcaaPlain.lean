/- Plain facts on whole numbers: rounding division, wraps of 64 bits, hidden hypotheses. No condition beyond the premises of each theorem. -/
import Derived.WalkKit
namespace Go.Proofs.Ytjfcjclhbnmgcaa
open Go.RowKit

theorem hide {p : Prop} (h : p) : Hid p := h

theorem ret_int {k : IntKind} {a b : Int} (h : a = b) : Ending.returned (.int k a) = .returned (.int k b) := by rw [h]
theorem ret_bool {a b : Bool} (h : a = b) : Ending.returned (.bool a) = .returned (.bool b) := by rw [h]

theorem floor_neg {n m : Int} (hm : 1 ≤ m) (h : n.tmod m < 0) : n.tdiv m - 1 = n / m := by
  have e := Int.mul_tdiv_add_tmod n m
  have l : -m < n.tmod m := by
    have := Int.tmod_lt_of_pos (-n) (b := m) (by omega)
    rw [Int.neg_tmod] at this
    omega
  refine ((Int.ediv_emod_unique (a := n) (b := m) (r := n.tmod m + m) (q := n.tdiv m - 1) (by omega)).2 ⟨?_, by omega, by omega⟩).1.symm
  rw [Int.mul_sub, Int.mul_one]
  omega

theorem floor_pos {n m : Int} (hm : 1 ≤ m) (h : 0 ≤ n.tmod m) : n.tdiv m = n / m := by
  have e := Int.mul_tdiv_add_tmod n m
  have l := Int.tmod_lt_of_pos n (b := m) (by omega)
  exact ((Int.ediv_emod_unique (a := n) (b := m) (r := n.tmod m) (q := n.tdiv m) (by omega)).2 ⟨by omega, h, l⟩).1.symm

theorem ediv_bounds {n m B : Int} (hm : 1 ≤ m) (hB : 0 ≤ B) (h0 : -B ≤ n) (h1 : n ≤ B) : -B ≤ n / m ∧ n / m ≤ B := by
  constructor
  · rw [Int.le_ediv_iff_mul_le (by omega)]
    have := Int.mul_le_mul_of_nonneg_left hm hB
    rw [Int.neg_mul]; omega
  · refine Int.le_trans (Int.ediv_le_ediv (by omega) h1) ?_
    exact Int.ediv_le_self _ hB

theorem ceil_eq (n m : Int) : -(-n / m) = -((-n) / m) := rfl

theorem u64_size_neg {n : Int} (h0 : -9223372036854775808 ≤ n) (h2 : n < 0) : IntKind.u64.wrap (-IntKind.u64.wrap n) = (n.natAbs : Int) := by
  rw [IntKind.wrap_u64, IntKind.wrap_u64]; omega

theorem mul_bound {x y : Int} (A B : Nat) (hx : -(A : Int) ≤ x ∧ x ≤ A) (hy : -(B : Int) ≤ y ∧ y ≤ B) : -((A * B : Nat) : Int) ≤ x * y ∧ x * y ≤ ((A * B : Nat) : Int) := by
  have h : (x * y).natAbs ≤ A * B := by rw [Int.natAbs_mul]; exact Nat.mul_le_mul (by omega) (by omega)
  omega

end Go.Proofs.Ytjfcjclhbnmgcaa
