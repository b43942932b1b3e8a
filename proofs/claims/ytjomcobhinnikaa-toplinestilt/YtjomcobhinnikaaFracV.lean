/- A fraction and an error as a result. -/
import Derived.Test.YtjomcobhinnikaaProdN
namespace Go.Proofs.Ytjomcobhinnikaa
open Go.RowKit

def fracV (n d e : Int) : Value := .tuple #[.agg #[.int .i64 n, .int .i64 d], .int .i64 e]
end Go.Proofs.Ytjomcobhinnikaa
