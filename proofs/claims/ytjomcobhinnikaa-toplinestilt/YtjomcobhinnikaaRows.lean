/-
  No cell of these rows narrows 'for every input' (looked for: loops, veiled, ifaces, maps, wideKeys, modest, calm, conditions, laid).
  DERIVED. THE GIVEN ROWS OF THIS SEAT. 3 by the template 'for every input the law returns true; each argument reads behind the call as it read before'; 0 by the template 'total and deterministic' (their statements: YtjomcobhinnikaaTotals.lean).
  GIVEN WITH THE SEED: the statements are not yours to turn. If you find one false, say at which input.
  Laid BY PROGRAM, IN A SANDBOX (cutbox-rows.mjs): the forced cells as the released guide's own fill.sh prints them over the translation 167e802ef2f600d4… (all of the seat's roots in one cut). By AI agents, Wed Nov 11 2026. No macro, syntax, notation, axiom, sorry.
-/
import Derived.Test.YtjomcobhinnikaaChecked
import GoSem.Claim
import GoSem.ClaimJoined
import GoSem.ClaimMapViews
import Derived.JoinedTies
import Derived.KernelRfl
namespace Go.Proofs.Ytjomcobhinnikaa
/- THE CELL 'sum', in the pinned program and in every row, IS THE sha256 OF THE DUMP (.gsa) THAT YtjomcobhinnikaaProg.lean LOADS. Nothing in Lean hashes anything: it is a label: what it is worth is what the hold of that sum in a sandbox is worth. -/
noncomputable def Try.pinned : Pinned := { name := "ytjomcobhinnikaa", sum := "167e802ef2f600d400255a86aae95dfd1a88afec544b14da1315c201212a742c", checked := Try.checked }
namespace Rows
def none {H : Type} : Left H := { results := [], args := [] }

/-- 'agraffetop.TopLinesTilt': WHATEVER THE INPUT: true; the input reads as it did. -/
def topLinesTiltSpec : ChangeSpec := { name := "topLinesTilt", fn := fun _ => fun
  | [d1, d2, d3] => { results := [.lit (.bool true)], args := [d1, d2, d3] }
  | _ => none }
def topLinesTiltRow : OpenClaim := { program := "ytjomcobhinnikaa", sum := "167e802ef2f600d400255a86aae95dfd1a88afec544b14da1315c201212a742c", func := "agraffe/agraffetop.TopLinesTilt", spec := "topLinesTilt", inPlace := ["math/bits.Add64"], unfollowed := true, recurses := true, apart := false }
def TopLinesTiltSaid : Prop := topLinesTiltRow.holds Try.pinned (OpenSpec.ofChange topLinesTiltSpec)

/-- ITS FALSE NEIGHBOUR: 'it returns false'. Refute it at one input. -/
def topLinesTiltWrong : ChangeSpec := { name := "topLinesTilt", fn := fun _ => fun
  | [d1, d2, d3] => { results := [.lit (.bool false)], args := [d1, d2, d3] }
  | _ => none }
def TopLinesTiltWrongFalsely : Prop := topLinesTiltRow.holds Try.pinned (OpenSpec.ofChange topLinesTiltWrong)

/-- 'agraffelaw01.NumberLines': WHATEVER THE INPUT: true; the input reads as it did. -/
def numberLinesSpec : ChangeSpec := { name := "numberLines", fn := fun _ => fun
  | [d] => { results := [.lit (.bool true)], args := [d] }
  | _ => none }
def numberLinesRow : OpenClaim := { program := "ytjomcobhinnikaa", sum := "167e802ef2f600d400255a86aae95dfd1a88afec544b14da1315c201212a742c", func := "agraffe/agraffelaw01.NumberLines", spec := "numberLines", inPlace := ["math/bits.Add64"], unfollowed := true, recurses := true, apart := false }
def NumberLinesSaid : Prop := numberLinesRow.holds Try.pinned (OpenSpec.ofChange numberLinesSpec)

/-- ITS FALSE NEIGHBOUR: 'it returns false'. Refute it at one input. -/
def numberLinesWrong : ChangeSpec := { name := "numberLines", fn := fun _ => fun
  | [d] => { results := [.lit (.bool false)], args := [d] }
  | _ => none }
def NumberLinesWrongFalsely : Prop := numberLinesRow.holds Try.pinned (OpenSpec.ofChange numberLinesWrong)

/-- 'agraffelaw01.NumberLineChecks': WHATEVER THE INPUT: true; the input reads as it did. -/
def numberLineChecksSpec : ChangeSpec := { name := "numberLineChecks", fn := fun _ => fun
  | [d1, d2] => { results := [.lit (.bool true)], args := [d1, d2] }
  | _ => none }
def numberLineChecksRow : OpenClaim := { program := "ytjomcobhinnikaa", sum := "167e802ef2f600d400255a86aae95dfd1a88afec544b14da1315c201212a742c", func := "agraffe/agraffelaw01.NumberLineChecks", spec := "numberLineChecks", inPlace := ["math/bits.Add64"], unfollowed := true, recurses := true, apart := false }
def NumberLineChecksSaid : Prop := numberLineChecksRow.holds Try.pinned (OpenSpec.ofChange numberLineChecksSpec)

/-- ITS FALSE NEIGHBOUR: 'it returns false'. Refute it at one input. -/
def numberLineChecksWrong : ChangeSpec := { name := "numberLineChecks", fn := fun _ => fun
  | [d1, d2] => { results := [.lit (.bool false)], args := [d1, d2] }
  | _ => none }
def NumberLineChecksWrongFalsely : Prop := numberLineChecksRow.holds Try.pinned (OpenSpec.ofChange numberLineChecksWrong)

/- THE SECOND FORM. 'bulk': how many values and letters a reading holds, each counted each time it is reached (what is shared counts as often as it is met; a slice's spare places count too). A statement '..UptoSaid' is the law's where the arguments, and the package variables that the reading takes, are together of bulk at most 1048576: NARROWER than '..Said'. Prove '..Said' where nothing that the law and all that it calls make is longer than what came in: it says more and counts as full. Else prove '..UptoSaid'. A law counts once. -/
mutual
def uptoBulk {H : Type} : DataW H → Nat
  | .lit (.string bytes) => bytes.length + 1
  | .lit _ => 1
  | .nil => 1
  | .ptr d => uptoBulk d + 1
  | .slice elems spare => uptoBulkAll elems + uptoBulkAll spare + 1
  | .agg parts => uptoBulkAll parts + 1
  | .iface _ d => uptoBulk d + 1
  | .map entries => uptoBulkEntries entries + 1
  | .held _ => 1
def uptoBulkAll {H : Type} : List (DataW H) → Nat
  | [] => 0
  | d :: r => uptoBulk d + uptoBulkAll r
def uptoBulkEntries {H : Type} : List (Lit × DataW H) → Nat
  | [] => 0
  | x :: r => uptoBulkEntry x + uptoBulkEntries r
def uptoBulkEntry {H : Type} : Lit × DataW H → Nat
  | (.string bytes, d) => bytes.length + uptoBulk d + 1
  | (_, d) => uptoBulk d + 1
 end
def uptoSmall : (H : Type) → List (DataW H) → Bool := fun _ ds => decide (uptoBulkAll ds ≤ 1048576)
def OpenSpec.upto (s : _root_.Go.ChangeSpec) : _root_.Go.OpenSpec := { _root_.Go.OpenSpec.ofChange s with cond := some uptoSmall }

/-- 'agraffetop.TopLinesTilt', WHERE WHAT IT READS IS OF BULK AT MOST 1048576: true; the input reads as it did. -/
def topLinesTiltUptoRow : OpenClaim := { program := "ytjomcobhinnikaa", sum := "167e802ef2f600d400255a86aae95dfd1a88afec544b14da1315c201212a742c", func := "agraffe/agraffetop.TopLinesTilt", spec := "topLinesTilt", inPlace := ["math/bits.Add64"], unfollowed := true, recurses := true, apart := false, narrowed := true }
def TopLinesTiltUptoSaid : Prop := topLinesTiltUptoRow.holds Try.pinned (OpenSpec.upto topLinesTiltSpec)

/-- 'agraffelaw01.NumberLines', WHERE WHAT IT READS IS OF BULK AT MOST 1048576: true; the input reads as it did. -/
def numberLinesUptoRow : OpenClaim := { program := "ytjomcobhinnikaa", sum := "167e802ef2f600d400255a86aae95dfd1a88afec544b14da1315c201212a742c", func := "agraffe/agraffelaw01.NumberLines", spec := "numberLines", inPlace := ["math/bits.Add64"], unfollowed := true, recurses := true, apart := false, narrowed := true }
def NumberLinesUptoSaid : Prop := numberLinesUptoRow.holds Try.pinned (OpenSpec.upto numberLinesSpec)

/-- 'agraffelaw01.NumberLineChecks', WHERE WHAT IT READS IS OF BULK AT MOST 1048576: true; the input reads as it did. -/
def numberLineChecksUptoRow : OpenClaim := { program := "ytjomcobhinnikaa", sum := "167e802ef2f600d400255a86aae95dfd1a88afec544b14da1315c201212a742c", func := "agraffe/agraffelaw01.NumberLineChecks", spec := "numberLineChecks", inPlace := ["math/bits.Add64"], unfollowed := true, recurses := true, apart := false, narrowed := true }
def NumberLineChecksUptoSaid : Prop := numberLineChecksUptoRow.holds Try.pinned (OpenSpec.upto numberLineChecksSpec)

end Rows
end Go.Proofs.Ytjomcobhinnikaa
