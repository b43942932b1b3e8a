/- Contracts of the small functions of package plate: quotients, sizes, the condition 'at most so much in size', tensions. Every bound is a premise of the theorem that bears it. -/
import Derived.Test.YtjfcjclhbnmgcaaFloor
import Derived.Test.YtjfcjclhbnmgcaaLive
import Derived.Laws.EntriesVeiled
namespace Go.Proofs.Ytjfcjclhbnmgcaa
open Go.RowKit
set_option linter.unusedVariables false
set_option linter.unusedSimpArgs false

theorem plDown_any (n m : Int) (w : World) (h0 : -9000000000000000000 ≤ n) (h1 : n ≤ 9000000000000000000) (hm : 1 ≤ m) (hm2 : m ≤ 9000000000000000000) :
    Calls Try.prog 109 #[.int .i64 n, .int .i64 m] w fun e w' => e = .returned (.int .i64 (n / m)) ∧ w = w' := by
  have hb := ediv_bounds (n := n) (B := 9000000000000000000) hm (by omega) h0 h1
  by_cases h2 : 0 ≤ n
  · have h3 := Int.emod_nonneg n (b := m) (by omega)
    go_enter Try.func109, Try.ntmps109
    go_wp2
    go_ret
    exact ⟨rfl, rfl⟩
  · by_cases h3 : n.tmod m < 0
    · have e := floor_neg hm h3
      have E : n.tdiv m = n / m + 1 := by omega
      have H := hide E
      clear E e
      go_enter Try.func109, Try.ntmps109
      go_wp2
      go_ret
      exact ⟨ret_int (by rw [H.out, IntWalk.wrap64_in _ ⟨by omega, by omega⟩]; omega), rfl⟩
    · have E := hide (floor_pos hm (by omega : 0 ≤ n.tmod m))
      go_enter Try.func109, Try.ntmps109
      go_wp2
      go_ret
      exact ⟨ret_int E.out, rfl⟩
theorem plUp_any (n m : Int) (w : World) (h0 : -9000000000000000000 ≤ n) (h1 : n ≤ 9000000000000000000) (hm : 1 ≤ m) (hm2 : m ≤ 9000000000000000000) :
    Calls Try.prog 110 #[.int .i64 n, .int .i64 m] w fun e w' => e = .returned (.int .i64 (-(-n / m))) ∧ w = w' := by
  have hb := ediv_bounds (n := -n) (B := 9000000000000000000) hm (by omega) (by omega) (by omega)
  go_enter Try.func110, Try.ntmps110
  go_wp2_with (go_at_call 109; refine (plDown_any _ _ _ (by omega) (by omega) hm hm2).mono ?_; rintro e w' ⟨rfl, rfl⟩)
  go_ret
  exact ⟨rfl, rfl⟩
theorem plSize_any (n : Int) (w : World) (h0 : -9223372036854775807 ≤ n) (h1 : n ≤ 9223372036854775807) :
    Calls Try.prog 89 #[.int .i64 n] w fun e w' => e = .returned (.int .i64 (n.natAbs : Int)) ∧ w = w' := by
  by_cases h2 : n < -n
  · go_enter Try.func89, Try.ntmps89
    go_wp2
    go_ret
    exact ⟨ret_int (by omega), rfl⟩
  · go_enter Try.func89, Try.ntmps89
    go_wp2
    go_ret
    exact ⟨ret_int (by omega), rfl⟩
/-- The condition 'at most so much in size', as a function value: it holds the bound in a block of its own. -/
theorem plWithin_any (most : Int) (w : World) :
    Calls Try.prog 72 #[.int .i64 most] w fun e w' => e = .returned (.func (.func 107) #[] #[.pointer (some ⟨w.heap.size, 0, none⟩)]) ∧ w.alloc (.cells #[.int .i64 most] 3) = w' := by
  have hmf : ∀ (fn : Fn) (first cap : Array Value) (w : World), (Instr.makeFunc fn first cap).run Try.prog w = .ok (.func fn first cap) w := fun _ _ _ _ => rfl
  go_enter Try.func72, Try.ntmps72
  go_wp2
  go_ret
  exact ⟨rfl, rfl⟩
theorem plWithin1_any (n most : Int) (g : Nat) (w : World) (h0 : 0 ≤ most) (h1 : most ≤ 1000000000000000000) (hc : w.cell? ⟨g, 0, none⟩ = some (.int .i64 most)) :
    Calls Try.prog 107 #[.int .i64 n, .pointer (some ⟨g, 0, none⟩)] w fun e w' => e = .returned (.bool (inB n most)) ∧ w = w' := by
  by_cases h2 : -most ≤ n
  · by_cases h3 : n ≤ most
    · go_enter Try.func107, Try.ntmps107
      go_wp2
      go_ret
      exact ⟨ret_bool (inB_yes (by omega)).symm, rfl⟩
    · go_enter Try.func107, Try.ntmps107
      go_wp2
      go_ret
      exact ⟨ret_bool (inB_no (by omega)).symm, rfl⟩
  · go_enter Try.func107, Try.ntmps107
    go_wp2
    go_ret
    exact ⟨ret_bool (inB_no (by omega)).symm, rfl⟩
/-- Is it a range of tensions? -/
def tenB (lo hi most : Int) : Bool := decide (0 ≤ lo ∧ lo ≤ hi ∧ hi ≤ most)
theorem plTension_any (lo hi most : Int) (w : World) :
    Calls Try.prog 91 #[.agg #[.int .i64 lo, .int .i64 hi], .int .i64 most] w fun e w' => e = .returned (.bool (tenB lo hi most)) ∧ Below w.heap.size w w' := by
  by_cases h1 : 0 ≤ lo
  · by_cases h2 : lo ≤ hi
    · by_cases h3 : hi ≤ most
      · go_enter Try.func91, Try.ntmps91
        go_wp2
        go_ret
        exact ⟨ret_bool (decide_eq_true ⟨h1, h2, h3⟩).symm, (Below.refl _ _).alloc (Nat.le_refl _) _⟩
      · go_enter Try.func91, Try.ntmps91
        go_wp2
        go_ret
        exact ⟨ret_bool (decide_eq_false (fun h => by have := h.2.2; omega)).symm, (Below.refl _ _).alloc (Nat.le_refl _) _⟩
    · go_enter Try.func91, Try.ntmps91
      go_wp2
      go_ret
      exact ⟨ret_bool (decide_eq_false (fun h => by have := h.2.1; omega)).symm, (Below.refl _ _).alloc (Nat.le_refl _) _⟩
  · go_enter Try.func91, Try.ntmps91
    go_wp2
    go_ret
    exact ⟨ret_bool (decide_eq_false (fun h => by have := h.1; omega)).symm, (Below.refl _ _).alloc (Nat.le_refl _) _⟩
end Go.Proofs.Ytjfcjclhbnmgcaa
