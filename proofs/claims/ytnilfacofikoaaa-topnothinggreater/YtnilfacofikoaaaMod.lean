/- The contract of agraffebase.Mod. -/
import Derived.Test.YtnilfacofikoaaaSmall
namespace Go.Proofs.Ytnilfacofikoaaa
open Go.RowKit
theorem mod_neg {n m : Int} (hm : 1 ≤ m) (h : n.tmod m < 0) : n.tmod m + m = n % m := by
  have e := Int.mul_tdiv_add_tmod n m
  have l : -m < n.tmod m := by
    have := Int.tmod_lt_of_pos (-n) (b := m) (by omega)
    rw [Int.neg_tmod] at this
    omega
  refine ((Int.ediv_emod_unique (a := n) (b := m) (r := n.tmod m + m) (q := n.tdiv m - 1) (by omega)).2 ⟨?_, by omega, by omega⟩).2.symm
  rw [Int.mul_sub, Int.mul_one]
  omega
theorem mod_pos {n m : Int} (hm : 1 ≤ m) (h : 0 ≤ n.tmod m) : n.tmod m = n % m := by
  have e := Int.mul_tdiv_add_tmod n m
  have l := Int.tmod_lt_of_pos n (b := m) (by omega)
  exact ((Int.ediv_emod_unique (a := n) (b := m) (r := n.tmod m) (q := n.tdiv m) (by omega)).2 ⟨by omega, h, l⟩).2.symm
theorem mod_any (n m : Int) (w : World) (h0 : -9000000000000000000 ≤ n) (h1 : n ≤ 9000000000000000000) (hm : 1 ≤ m) (hm2 : m ≤ 9000000000000000000) :
    Calls Try.prog 45 #[.int .i64 n, .int .i64 m] w fun e w' => e = .returned (.int .i64 (n % m)) ∧ w = w' := by
  have hl := Int.emod_lt_of_pos n (show 0 < m by omega)
  have hg := Int.emod_nonneg n (show m ≠ 0 by omega)
  by_cases h3 : n.tmod m < 0
  · have H := hide (mod_neg hm h3)
    have hn : ¬ 0 ≤ n := fun h => by have := Int.tmod_nonneg m h; omega
    have hlo : -m < n.tmod m := by
      have := Int.tmod_lt_of_pos (-n) (b := m) (by omega)
      rw [Int.neg_tmod] at this
      omega
    go_enter Try.func45, Try.ntmps45
    go_wp2
    go_ret
    exact ⟨ret_int (by first | exact H.out | (rw [IntKind.wrap_i64]; have := H.out; omega)), rfl⟩
  · have H := hide (mod_pos hm (show 0 ≤ n.tmod m by omega))
    by_cases hn : 0 ≤ n
    · go_enter Try.func45, Try.ntmps45
      go_wp2
      go_ret
      exact ⟨ret_int (by first | rfl | exact H.out), rfl⟩
    · go_enter Try.func45, Try.ntmps45
      go_wp2
      go_ret
      exact ⟨ret_int H.out, rfl⟩

end Go.Proofs.Ytnilfacofikoaaa
