/- The contract of agraffebase.Floor. -/
import Derived.Test.YtjfcjclhbnmgcaaSmall
namespace Go.Proofs.Ytjfcjclhbnmgcaa
open Go.RowKit

theorem floor_any (n m : Int) (w : World) (h0 : -9000000000000000000 ≤ n) (h1 : n ≤ 9000000000000000000) (hm : 1 ≤ m) (hm2 : m ≤ 9000000000000000000) :
    Calls Try.prog 60 #[.int .i64 n, .int .i64 m] w fun e w' => e = .returned (.int .i64 (n / m)) ∧ w = w' := by
  have hb := ediv_bounds (n := n) (B := 9000000000000000000) hm (by omega) h0 h1
  by_cases h2 : 0 ≤ n
  · have h3 := Int.emod_nonneg n (b := m) (by omega)
    go_enter Try.func60, Try.ntmps60
    go_wp2
    go_ret
    exact ⟨rfl, rfl⟩
  · by_cases h3 : n.tmod m < 0
    · have e := floor_neg hm h3
      have E : n.tdiv m = n / m + 1 := by omega
      have H := hide E
      clear E e
      go_enter Try.func60, Try.ntmps60
      go_wp2
      go_ret
      exact ⟨ret_int (by rw [H.out, IntWalk.wrap64_in _ ⟨by omega, by omega⟩]; omega), rfl⟩
    · have E := hide (floor_pos hm (by omega : 0 ≤ n.tmod m))
      go_enter Try.func60, Try.ntmps60
      go_wp2
      go_ret
      exact ⟨ret_int E.out, rfl⟩

theorem floorB (n m : Int) (w : World) (h0 : -9000000000000000000 ≤ n) (h1 : n ≤ 9000000000000000000) (hm : 1 ≤ m) (hm2 : m ≤ 9000000000000000000) :
    Calls Try.prog 60 #[.int .i64 n, .int .i64 m] w fun e w' => e = .returned (.int .i64 (n / m)) ∧ Below w.heap.size w w' := (floor_any n m w h0 h1 hm hm2).mono fun _ _ h => ⟨h.1, h.2 ▸ Below.refl _ _⟩
end Go.Proofs.Ytjfcjclhbnmgcaa
