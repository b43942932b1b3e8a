/- The contract of agraffebase.Cmp for valid fractions. -/
import Derived.Test.YtnilfacofikoaaaProdN
import Derived.Test.YtnilfacofikoaaaLive
import Derived.Test.YtnilfacofikoaaaCompare
namespace Go.Proofs.Ytnilfacofikoaaa
open Go.RowKit

set_option linter.unusedSimpArgs false
set_option linter.unusedVariables false

theorem baseCmp_any (a b c d : Int) (w : World) (h1 : okF a b) (h2 : okF c d) :
    Calls Try.prog 51 #[.agg #[.int .i64 a, .int .i64 b], .agg #[.int .i64 c, .int .i64 d]] w fun e w' => e = .returned (.int .i64 (cmpZ (a * d) (c * b))) ∧ Below w.heap.size w w' := by
  obtain ⟨⟨hb1, _⟩, ha, hb2⟩ := h1
  obtain ⟨⟨hd1, _⟩, hc, hd2⟩ := h2
  have hp : -1000000000000000000 ≤ a * d ∧ a * d ≤ 1000000000000000000 := prodN ha (by omega)
  have hq : -1000000000000000000 ≤ c * b ∧ c * b ≤ 1000000000000000000 := prodN hc (by omega)
  have W1 : IntKind.i64.wrap (a * d) = a * d := by rw [IntKind.wrap_i64]; omega
  have W2 : IntKind.i64.wrap (c * b) = c * b := by rw [IntKind.wrap_i64]; omega
  have L0 := hide (Lv.start w)
  rcases Int.lt_trichotomy (a * d) (c * b) with h | h | h
  · have HZ := hide (cmpZ_lt h)
    go_enter Try.func51, Try.ntmps51
    go_wp2
    go_quiet (fail)
    go_wp2
    go_ret
    refine ⟨ret_int HZ.out.symm, ?_⟩
    repeat (first | (with_reducible exact L0.out.below) | refine Below.setCell ?_ (by first | omega | (simp; done) | (simp; omega)) _ | refine Below.alloc ?_ (by first | omega | (simp; done) | (simp; omega)) _ | refine below_drewN ?_ _ | refine Below.drew ?_)
  · have HZ : Hid (cmpZ (a * d) (c * b) = 0) := by rw [h]; exact cmpZ_eq _
    have n1 : ¬ a * d < c * b := by omega
    have n2 : ¬ c * b < a * d := by omega
    clear h
    go_enter Try.func51, Try.ntmps51
    go_wp2
    go_quiet (fail)
    go_wp2
    go_ret
    refine ⟨ret_int HZ.out.symm, ?_⟩
    repeat (first | (with_reducible exact L0.out.below) | refine Below.setCell ?_ (by first | omega | (simp; done) | (simp; omega)) _ | refine Below.alloc ?_ (by first | omega | (simp; done) | (simp; omega)) _ | refine below_drewN ?_ _ | refine Below.drew ?_)
  · have HZ := hide (cmpZ_gt h)
    go_enter Try.func51, Try.ntmps51
    go_wp2
    go_quiet (fail)
    go_wp2
    go_ret
    refine ⟨ret_int HZ.out.symm, ?_⟩
    repeat (first | (with_reducible exact L0.out.below) | refine Below.setCell ?_ (by first | omega | (simp; done) | (simp; omega)) _ | refine Below.alloc ?_ (by first | omega | (simp; done) | (simp; omega)) _ | refine below_drewN ?_ _ | refine Below.drew ?_)
end Go.Proofs.Ytnilfacofikoaaa
