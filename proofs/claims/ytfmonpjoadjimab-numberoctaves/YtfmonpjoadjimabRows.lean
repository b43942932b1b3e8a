/-
  No cell of these rows narrows 'for every input' (looked for: loops, veiled, ifaces, maps, wideKeys, modest, calm, conditions, laid).
  DERIVED. THE GIVEN ROWS OF THIS SEAT. 6 by the template 'for every input the law returns true; each argument reads behind the call as it read before'; 0 by the template 'total and deterministic' (their statements: YtfmonpjoadjimabTotals.lean).
  GIVEN WITH THE SEED: the statements are not yours to turn. If you find one false, say at which input.
  Laid BY PROGRAM, IN A SANDBOX (cutbox-rows.mjs): the forced cells as the released guide's own fill.sh prints them over the translation 482fa844f0fd1434… (all of the seat's roots in one cut). By AI agents, Wed Nov 11 2026. No macro, syntax, notation, axiom, sorry.
-/
import Derived.Test.YtfmonpjoadjimabChecked
import GoSem.Claim
import GoSem.ClaimJoined
import GoSem.ClaimMapViews
import Derived.JoinedTies
import Derived.KernelRfl
namespace Go.Proofs.Ytfmonpjoadjimab
/- THE CELL 'sum', in the pinned program and in every row, IS THE sha256 OF THE DUMP (.gsa) THAT YtfmonpjoadjimabProg.lean LOADS. Nothing in Lean hashes anything: it is a label: what it is worth is what the hold of that sum in a sandbox is worth. -/
noncomputable def Try.pinned : Pinned := { name := "ytfmonpjoadjimab", sum := "482fa844f0fd1434bda39f70706f3ea01274496f2548bbdd2a4a482b3727e810", checked := Try.checked }
namespace Rows
def none {H : Type} : Left H := { results := [], args := [] }

/-- 'agraffelaw01.NumberOctaves': WHATEVER THE INPUT: true; the input reads as it did. -/
def numberOctavesSpec : ChangeSpec := { name := "numberOctaves", fn := fun _ => fun
  | [d] => { results := [.lit (.bool true)], args := [d] }
  | _ => none }
def numberOctavesRow : OpenClaim := { program := "ytfmonpjoadjimab", sum := "482fa844f0fd1434bda39f70706f3ea01274496f2548bbdd2a4a482b3727e810", func := "agraffe/agraffelaw01.NumberOctaves", spec := "numberOctaves", inPlace := ["math/bits.Add64"], unfollowed := true, recurses := true, apart := false }
def NumberOctavesSaid : Prop := numberOctavesRow.holds Try.pinned (OpenSpec.ofChange numberOctavesSpec)

/-- ITS FALSE NEIGHBOUR: 'it returns false'. Refute it at one input. -/
def numberOctavesWrong : ChangeSpec := { name := "numberOctaves", fn := fun _ => fun
  | [d] => { results := [.lit (.bool false)], args := [d] }
  | _ => none }
def NumberOctavesWrongFalsely : Prop := numberOctavesRow.holds Try.pinned (OpenSpec.ofChange numberOctavesWrong)

/-- 'agraffelaw01.NumberEncloses': WHATEVER THE INPUT: true; the input reads as it did. -/
def numberEnclosesSpec : ChangeSpec := { name := "numberEncloses", fn := fun _ => fun
  | [d1, d2] => { results := [.lit (.bool true)], args := [d1, d2] }
  | _ => none }
def numberEnclosesRow : OpenClaim := { program := "ytfmonpjoadjimab", sum := "482fa844f0fd1434bda39f70706f3ea01274496f2548bbdd2a4a482b3727e810", func := "agraffe/agraffelaw01.NumberEncloses", spec := "numberEncloses", inPlace := ["math/bits.Add64"], unfollowed := true, recurses := true, apart := false }
def NumberEnclosesSaid : Prop := numberEnclosesRow.holds Try.pinned (OpenSpec.ofChange numberEnclosesSpec)

/-- ITS FALSE NEIGHBOUR: 'it returns false'. Refute it at one input. -/
def numberEnclosesWrong : ChangeSpec := { name := "numberEncloses", fn := fun _ => fun
  | [d1, d2] => { results := [.lit (.bool false)], args := [d1, d2] }
  | _ => none }
def NumberEnclosesWrongFalsely : Prop := numberEnclosesRow.holds Try.pinned (OpenSpec.ofChange numberEnclosesWrong)

/-- 'agraffelaw01.NumberRanges': WHATEVER THE INPUT: true; the input reads as it did. -/
def numberRangesSpec : ChangeSpec := { name := "numberRanges", fn := fun _ => fun
  | [d1, d2] => { results := [.lit (.bool true)], args := [d1, d2] }
  | _ => none }
def numberRangesRow : OpenClaim := { program := "ytfmonpjoadjimab", sum := "482fa844f0fd1434bda39f70706f3ea01274496f2548bbdd2a4a482b3727e810", func := "agraffe/agraffelaw01.NumberRanges", spec := "numberRanges", inPlace := ["math/bits.Add64"], unfollowed := true, recurses := true, apart := false }
def NumberRangesSaid : Prop := numberRangesRow.holds Try.pinned (OpenSpec.ofChange numberRangesSpec)

/-- ITS FALSE NEIGHBOUR: 'it returns false'. Refute it at one input. -/
def numberRangesWrong : ChangeSpec := { name := "numberRanges", fn := fun _ => fun
  | [d1, d2] => { results := [.lit (.bool false)], args := [d1, d2] }
  | _ => none }
def NumberRangesWrongFalsely : Prop := numberRangesRow.holds Try.pinned (OpenSpec.ofChange numberRangesWrong)

/-- 'agraffelaw01.NumberScaled': WHATEVER THE INPUT: true; the input reads as it did. -/
def numberScaledSpec : ChangeSpec := { name := "numberScaled", fn := fun _ => fun
  | [d1, d2] => { results := [.lit (.bool true)], args := [d1, d2] }
  | _ => none }
def numberScaledRow : OpenClaim := { program := "ytfmonpjoadjimab", sum := "482fa844f0fd1434bda39f70706f3ea01274496f2548bbdd2a4a482b3727e810", func := "agraffe/agraffelaw01.NumberScaled", spec := "numberScaled", inPlace := ["math/bits.Add64"], unfollowed := true, recurses := true, named := ["math/bits.divideError", "math/bits.overflowError"], apart := false }
def NumberScaledSaid : Prop := numberScaledRow.holds Try.pinned (OpenSpec.ofChange numberScaledSpec)

/-- ITS FALSE NEIGHBOUR: 'it returns false'. Refute it at one input. -/
def numberScaledWrong : ChangeSpec := { name := "numberScaled", fn := fun _ => fun
  | [d1, d2] => { results := [.lit (.bool false)], args := [d1, d2] }
  | _ => none }
def NumberScaledWrongFalsely : Prop := numberScaledRow.holds Try.pinned (OpenSpec.ofChange numberScaledWrong)

/-- 'agraffelaw01.NumberSystems': WHATEVER THE INPUT: true; the input reads as it did. -/
def numberSystemsSpec : ChangeSpec := { name := "numberSystems", fn := fun _ => fun
  | [d1, d2] => { results := [.lit (.bool true)], args := [d1, d2] }
  | _ => none }
def numberSystemsRow : OpenClaim := { program := "ytfmonpjoadjimab", sum := "482fa844f0fd1434bda39f70706f3ea01274496f2548bbdd2a4a482b3727e810", func := "agraffe/agraffelaw01.NumberSystems", spec := "numberSystems", inPlace := ["math/bits.Add64"], unfollowed := true, recurses := true, apart := false }
def NumberSystemsSaid : Prop := numberSystemsRow.holds Try.pinned (OpenSpec.ofChange numberSystemsSpec)

/-- ITS FALSE NEIGHBOUR: 'it returns false'. Refute it at one input. -/
def numberSystemsWrong : ChangeSpec := { name := "numberSystems", fn := fun _ => fun
  | [d1, d2] => { results := [.lit (.bool false)], args := [d1, d2] }
  | _ => none }
def NumberSystemsWrongFalsely : Prop := numberSystemsRow.holds Try.pinned (OpenSpec.ofChange numberSystemsWrong)

/-- 'agraffelaw01.NumberLines': WHATEVER THE INPUT: true; the input reads as it did. -/
def numberLinesSpec : ChangeSpec := { name := "numberLines", fn := fun _ => fun
  | [d] => { results := [.lit (.bool true)], args := [d] }
  | _ => none }
def numberLinesRow : OpenClaim := { program := "ytfmonpjoadjimab", sum := "482fa844f0fd1434bda39f70706f3ea01274496f2548bbdd2a4a482b3727e810", func := "agraffe/agraffelaw01.NumberLines", spec := "numberLines", inPlace := ["math/bits.Add64"], unfollowed := true, recurses := true, apart := false }
def NumberLinesSaid : Prop := numberLinesRow.holds Try.pinned (OpenSpec.ofChange numberLinesSpec)

/-- ITS FALSE NEIGHBOUR: 'it returns false'. Refute it at one input. -/
def numberLinesWrong : ChangeSpec := { name := "numberLines", fn := fun _ => fun
  | [d] => { results := [.lit (.bool false)], args := [d] }
  | _ => none }
def NumberLinesWrongFalsely : Prop := numberLinesRow.holds Try.pinned (OpenSpec.ofChange numberLinesWrong)

/- THE SECOND FORM. 'bulk': how many values and letters a reading holds, each counted each time it is reached (what is shared counts as often as it is met; a slice's spare places count too). A statement '..UptoSaid' is the law's where the arguments, and the package variables that the reading takes, are together of bulk at most 1048576: NARROWER than '..Said'. Prove '..Said' where nothing that the law and all that it calls make is longer than what came in: it says more and counts as full. Else prove '..UptoSaid'. A law counts once. -/
mutual
def uptoBulk {H : Type} : DataW H → Nat
  | .lit (.string bytes) => bytes.length + 1
  | .lit _ => 1
  | .nil => 1
  | .ptr d => uptoBulk d + 1
  | .slice elems spare => uptoBulkAll elems + uptoBulkAll spare + 1
  | .agg parts => uptoBulkAll parts + 1
  | .iface _ d => uptoBulk d + 1
  | .map entries => uptoBulkEntries entries + 1
  | .held _ => 1
def uptoBulkAll {H : Type} : List (DataW H) → Nat
  | [] => 0
  | d :: r => uptoBulk d + uptoBulkAll r
def uptoBulkEntries {H : Type} : List (Lit × DataW H) → Nat
  | [] => 0
  | x :: r => uptoBulkEntry x + uptoBulkEntries r
def uptoBulkEntry {H : Type} : Lit × DataW H → Nat
  | (.string bytes, d) => bytes.length + uptoBulk d + 1
  | (_, d) => uptoBulk d + 1
 end
def uptoSmall : (H : Type) → List (DataW H) → Bool := fun _ ds => decide (uptoBulkAll ds ≤ 1048576)
def OpenSpec.upto (s : _root_.Go.ChangeSpec) : _root_.Go.OpenSpec := { _root_.Go.OpenSpec.ofChange s with cond := some uptoSmall }

/-- 'agraffelaw01.NumberOctaves', WHERE WHAT IT READS IS OF BULK AT MOST 1048576: true; the input reads as it did. -/
def numberOctavesUptoRow : OpenClaim := { program := "ytfmonpjoadjimab", sum := "482fa844f0fd1434bda39f70706f3ea01274496f2548bbdd2a4a482b3727e810", func := "agraffe/agraffelaw01.NumberOctaves", spec := "numberOctaves", inPlace := ["math/bits.Add64"], unfollowed := true, recurses := true, apart := false, narrowed := true }
def NumberOctavesUptoSaid : Prop := numberOctavesUptoRow.holds Try.pinned (OpenSpec.upto numberOctavesSpec)

/-- 'agraffelaw01.NumberEncloses', WHERE WHAT IT READS IS OF BULK AT MOST 1048576: true; the input reads as it did. -/
def numberEnclosesUptoRow : OpenClaim := { program := "ytfmonpjoadjimab", sum := "482fa844f0fd1434bda39f70706f3ea01274496f2548bbdd2a4a482b3727e810", func := "agraffe/agraffelaw01.NumberEncloses", spec := "numberEncloses", inPlace := ["math/bits.Add64"], unfollowed := true, recurses := true, apart := false, narrowed := true }
def NumberEnclosesUptoSaid : Prop := numberEnclosesUptoRow.holds Try.pinned (OpenSpec.upto numberEnclosesSpec)

/-- 'agraffelaw01.NumberRanges', WHERE WHAT IT READS IS OF BULK AT MOST 1048576: true; the input reads as it did. -/
def numberRangesUptoRow : OpenClaim := { program := "ytfmonpjoadjimab", sum := "482fa844f0fd1434bda39f70706f3ea01274496f2548bbdd2a4a482b3727e810", func := "agraffe/agraffelaw01.NumberRanges", spec := "numberRanges", inPlace := ["math/bits.Add64"], unfollowed := true, recurses := true, apart := false, narrowed := true }
def NumberRangesUptoSaid : Prop := numberRangesUptoRow.holds Try.pinned (OpenSpec.upto numberRangesSpec)

/-- 'agraffelaw01.NumberScaled', WHERE WHAT IT READS IS OF BULK AT MOST 1048576: true; the input reads as it did. -/
def numberScaledUptoRow : OpenClaim := { program := "ytfmonpjoadjimab", sum := "482fa844f0fd1434bda39f70706f3ea01274496f2548bbdd2a4a482b3727e810", func := "agraffe/agraffelaw01.NumberScaled", spec := "numberScaled", inPlace := ["math/bits.Add64"], unfollowed := true, recurses := true, named := ["math/bits.divideError", "math/bits.overflowError"], apart := false, narrowed := true }
def NumberScaledUptoSaid : Prop := numberScaledUptoRow.holds Try.pinned (OpenSpec.upto numberScaledSpec)

/-- 'agraffelaw01.NumberSystems', WHERE WHAT IT READS IS OF BULK AT MOST 1048576: true; the input reads as it did. -/
def numberSystemsUptoRow : OpenClaim := { program := "ytfmonpjoadjimab", sum := "482fa844f0fd1434bda39f70706f3ea01274496f2548bbdd2a4a482b3727e810", func := "agraffe/agraffelaw01.NumberSystems", spec := "numberSystems", inPlace := ["math/bits.Add64"], unfollowed := true, recurses := true, apart := false, narrowed := true }
def NumberSystemsUptoSaid : Prop := numberSystemsUptoRow.holds Try.pinned (OpenSpec.upto numberSystemsSpec)

/-- 'agraffelaw01.NumberLines', WHERE WHAT IT READS IS OF BULK AT MOST 1048576: true; the input reads as it did. -/
def numberLinesUptoRow : OpenClaim := { program := "ytfmonpjoadjimab", sum := "482fa844f0fd1434bda39f70706f3ea01274496f2548bbdd2a4a482b3727e810", func := "agraffe/agraffelaw01.NumberLines", spec := "numberLines", inPlace := ["math/bits.Add64"], unfollowed := true, recurses := true, apart := false, narrowed := true }
def NumberLinesUptoSaid : Prop := numberLinesUptoRow.holds Try.pinned (OpenSpec.upto numberLinesSpec)

end Rows
end Go.Proofs.Ytfmonpjoadjimab
