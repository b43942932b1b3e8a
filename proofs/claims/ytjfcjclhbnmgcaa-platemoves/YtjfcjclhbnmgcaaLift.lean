/- What a law's lifted proof uses beside the kit: an int's bounds from its reading. -/
import Derived.Test.YtjfcjclhbnmgcaaRow
import Derived.Lib.SmallJoins
namespace Go.Proofs.Ytjfcjclhbnmgcaa
open Go.ChangeShapes Go.WideShapes Go.ChangeAt Go.RowKit Go.Joins
theorem wfI {n : Int} (h : (Lit.int .i64 n).wf = true) : -9223372036854775808 ≤ n ∧ n ≤ 9223372036854775807 := by
  have h1 : (-9223372036854775808 ≤ n ∧ n ≤ 9223372036854775807) = ((Lit.int .i64 n).wf = true) := by simp [Lit.wf, IntKind.min, IntKind.signed, IntKind.bits, decide_eq_true_eq]
  rw [h1]; exact h
end Go.Proofs.Ytjfcjclhbnmgcaa
