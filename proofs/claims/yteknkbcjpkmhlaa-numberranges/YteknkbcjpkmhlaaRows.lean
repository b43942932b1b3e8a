/-
  No cell of these rows narrows 'for every input' (looked for: loops, veiled, ifaces, maps, wideKeys, modest, calm, conditions, laid).
  DERIVED. THE GIVEN ROWS OF THIS SEAT. 11 by the template 'for every input the law returns true; each argument reads behind the call as it read before'; 0 by the template 'total and deterministic' (their statements: YteknkbcjpkmhlaaTotals.lean).
  GIVEN WITH THE SEED: the statements are not yours to turn. If you find one false, say at which input.
  Laid BY PROGRAM, IN A SANDBOX (cutbox-rows.mjs): the forced cells as the released guide's own fill.sh prints them over the translation 5741161ca07e7e88… (all of the seat's roots in one cut). By AI agents, Wed Nov 11 2026. No macro, syntax, notation, axiom, sorry.
-/
import Derived.Test.YteknkbcjpkmhlaaChecked
import GoSem.Claim
import GoSem.ClaimJoined
import GoSem.ClaimMapViews
import Derived.JoinedTies
import Derived.KernelRfl
namespace Go.Proofs.Yteknkbcjpkmhlaa
/- THE CELL 'sum', in the pinned program and in every row, IS THE sha256 OF THE DUMP (.gsa) THAT YteknkbcjpkmhlaaProg.lean LOADS. Nothing in Lean hashes anything: it is a label: what it is worth is what the hold of that sum in a sandbox is worth. -/
noncomputable def Try.pinned : Pinned := { name := "yteknkbcjpkmhlaa", sum := "5741161ca07e7e8861b3a907cab6c12dc56e8c3822305735bc27e6c9bca826f8", checked := Try.checked }
namespace Rows
def none {H : Type} : Left H := { results := [], args := [] }

/-- 'agraffelaw01.NumberRoots': WHATEVER THE INPUT: true; the input reads as it did. -/
def numberRootsSpec : ChangeSpec := { name := "numberRoots", fn := fun _ => fun
  | [d1, d2] => { results := [.lit (.bool true)], args := [d1, d2] }
  | _ => none }
def numberRootsRow : OpenClaim := { program := "yteknkbcjpkmhlaa", sum := "5741161ca07e7e8861b3a907cab6c12dc56e8c3822305735bc27e6c9bca826f8", func := "agraffe/agraffelaw01.NumberRoots", spec := "numberRoots", inPlace := ["math/bits.Add64"], unfollowed := true, recurses := true, apart := false }
def NumberRootsSaid : Prop := numberRootsRow.holds Try.pinned (OpenSpec.ofChange numberRootsSpec)

/-- ITS FALSE NEIGHBOUR: 'it returns false'. Refute it at one input. -/
def numberRootsWrong : ChangeSpec := { name := "numberRoots", fn := fun _ => fun
  | [d1, d2] => { results := [.lit (.bool false)], args := [d1, d2] }
  | _ => none }
def NumberRootsWrongFalsely : Prop := numberRootsRow.holds Try.pinned (OpenSpec.ofChange numberRootsWrong)

/-- 'agraffelaw01.NumberFracs': WHATEVER THE INPUT: true; the input reads as it did. -/
def numberFracsSpec : ChangeSpec := { name := "numberFracs", fn := fun _ => fun
  | [d1, d2] => { results := [.lit (.bool true)], args := [d1, d2] }
  | _ => none }
def numberFracsRow : OpenClaim := { program := "yteknkbcjpkmhlaa", sum := "5741161ca07e7e8861b3a907cab6c12dc56e8c3822305735bc27e6c9bca826f8", func := "agraffe/agraffelaw01.NumberFracs", spec := "numberFracs", inPlace := ["math/bits.Add64"], unfollowed := true, recurses := true, apart := false }
def NumberFracsSaid : Prop := numberFracsRow.holds Try.pinned (OpenSpec.ofChange numberFracsSpec)

/-- ITS FALSE NEIGHBOUR: 'it returns false'. Refute it at one input. -/
def numberFracsWrong : ChangeSpec := { name := "numberFracs", fn := fun _ => fun
  | [d1, d2] => { results := [.lit (.bool false)], args := [d1, d2] }
  | _ => none }
def NumberFracsWrongFalsely : Prop := numberFracsRow.holds Try.pinned (OpenSpec.ofChange numberFracsWrong)

/-- 'agraffelaw01.NumberRounded': WHATEVER THE INPUT: true; the input reads as it did. -/
def numberRoundedSpec : ChangeSpec := { name := "numberRounded", fn := fun _ => fun
  | [d1, d2] => { results := [.lit (.bool true)], args := [d1, d2] }
  | _ => none }
def numberRoundedRow : OpenClaim := { program := "yteknkbcjpkmhlaa", sum := "5741161ca07e7e8861b3a907cab6c12dc56e8c3822305735bc27e6c9bca826f8", func := "agraffe/agraffelaw01.NumberRounded", spec := "numberRounded", inPlace := ["math/bits.Add64"], unfollowed := true, recurses := true, apart := false }
def NumberRoundedSaid : Prop := numberRoundedRow.holds Try.pinned (OpenSpec.ofChange numberRoundedSpec)

/-- ITS FALSE NEIGHBOUR: 'it returns false'. Refute it at one input. -/
def numberRoundedWrong : ChangeSpec := { name := "numberRounded", fn := fun _ => fun
  | [d1, d2] => { results := [.lit (.bool false)], args := [d1, d2] }
  | _ => none }
def NumberRoundedWrongFalsely : Prop := numberRoundedRow.holds Try.pinned (OpenSpec.ofChange numberRoundedWrong)

/-- 'agraffelaw01.NumberRanges': WHATEVER THE INPUT: true; the input reads as it did. -/
def numberRangesSpec : ChangeSpec := { name := "numberRanges", fn := fun _ => fun
  | [d1, d2] => { results := [.lit (.bool true)], args := [d1, d2] }
  | _ => none }
def numberRangesRow : OpenClaim := { program := "yteknkbcjpkmhlaa", sum := "5741161ca07e7e8861b3a907cab6c12dc56e8c3822305735bc27e6c9bca826f8", func := "agraffe/agraffelaw01.NumberRanges", spec := "numberRanges", inPlace := ["math/bits.Add64"], unfollowed := true, recurses := true, apart := false }
def NumberRangesSaid : Prop := numberRangesRow.holds Try.pinned (OpenSpec.ofChange numberRangesSpec)

/-- ITS FALSE NEIGHBOUR: 'it returns false'. Refute it at one input. -/
def numberRangesWrong : ChangeSpec := { name := "numberRanges", fn := fun _ => fun
  | [d1, d2] => { results := [.lit (.bool false)], args := [d1, d2] }
  | _ => none }
def NumberRangesWrongFalsely : Prop := numberRangesRow.holds Try.pinned (OpenSpec.ofChange numberRangesWrong)

/-- 'agraffelaw01.NumberScaled': WHATEVER THE INPUT: true; the input reads as it did. -/
def numberScaledSpec : ChangeSpec := { name := "numberScaled", fn := fun _ => fun
  | [d1, d2] => { results := [.lit (.bool true)], args := [d1, d2] }
  | _ => none }
def numberScaledRow : OpenClaim := { program := "yteknkbcjpkmhlaa", sum := "5741161ca07e7e8861b3a907cab6c12dc56e8c3822305735bc27e6c9bca826f8", func := "agraffe/agraffelaw01.NumberScaled", spec := "numberScaled", inPlace := ["math/bits.Add64"], unfollowed := true, recurses := true, named := ["math/bits.divideError", "math/bits.overflowError"], apart := false }
def NumberScaledSaid : Prop := numberScaledRow.holds Try.pinned (OpenSpec.ofChange numberScaledSpec)

/-- ITS FALSE NEIGHBOUR: 'it returns false'. Refute it at one input. -/
def numberScaledWrong : ChangeSpec := { name := "numberScaled", fn := fun _ => fun
  | [d1, d2] => { results := [.lit (.bool false)], args := [d1, d2] }
  | _ => none }
def NumberScaledWrongFalsely : Prop := numberScaledRow.holds Try.pinned (OpenSpec.ofChange numberScaledWrong)

/-- 'agraffelaw01.NumberPitches': WHATEVER THE INPUT: true; the input reads as it did. -/
def numberPitchesSpec : ChangeSpec := { name := "numberPitches", fn := fun _ => fun
  | [d1, d2] => { results := [.lit (.bool true)], args := [d1, d2] }
  | _ => none }
def numberPitchesRow : OpenClaim := { program := "yteknkbcjpkmhlaa", sum := "5741161ca07e7e8861b3a907cab6c12dc56e8c3822305735bc27e6c9bca826f8", func := "agraffe/agraffelaw01.NumberPitches", spec := "numberPitches", inPlace := ["math/bits.Add64"], unfollowed := true, recurses := true, apart := false }
def NumberPitchesSaid : Prop := numberPitchesRow.holds Try.pinned (OpenSpec.ofChange numberPitchesSpec)

/-- ITS FALSE NEIGHBOUR: 'it returns false'. Refute it at one input. -/
def numberPitchesWrong : ChangeSpec := { name := "numberPitches", fn := fun _ => fun
  | [d1, d2] => { results := [.lit (.bool false)], args := [d1, d2] }
  | _ => none }
def NumberPitchesWrongFalsely : Prop := numberPitchesRow.holds Try.pinned (OpenSpec.ofChange numberPitchesWrong)

/-- 'agraffelaw01.NumberPowers': WHATEVER THE INPUT: true; the input reads as it did. -/
def numberPowersSpec : ChangeSpec := { name := "numberPowers", fn := fun _ => fun
  | [d1, d2] => { results := [.lit (.bool true)], args := [d1, d2] }
  | _ => none }
def numberPowersRow : OpenClaim := { program := "yteknkbcjpkmhlaa", sum := "5741161ca07e7e8861b3a907cab6c12dc56e8c3822305735bc27e6c9bca826f8", func := "agraffe/agraffelaw01.NumberPowers", spec := "numberPowers", inPlace := ["math/bits.Add64"], unfollowed := true, recurses := true, apart := false }
def NumberPowersSaid : Prop := numberPowersRow.holds Try.pinned (OpenSpec.ofChange numberPowersSpec)

/-- ITS FALSE NEIGHBOUR: 'it returns false'. Refute it at one input. -/
def numberPowersWrong : ChangeSpec := { name := "numberPowers", fn := fun _ => fun
  | [d1, d2] => { results := [.lit (.bool false)], args := [d1, d2] }
  | _ => none }
def NumberPowersWrongFalsely : Prop := numberPowersRow.holds Try.pinned (OpenSpec.ofChange numberPowersWrong)

/-- 'agraffelaw01.NumberOrders': WHATEVER THE INPUT: true; the input reads as it did. -/
def numberOrdersSpec : ChangeSpec := { name := "numberOrders", fn := fun _ => fun
  | [d1, d2, d3] => { results := [.lit (.bool true)], args := [d1, d2, d3] }
  | _ => none }
def numberOrdersRow : OpenClaim := { program := "yteknkbcjpkmhlaa", sum := "5741161ca07e7e8861b3a907cab6c12dc56e8c3822305735bc27e6c9bca826f8", func := "agraffe/agraffelaw01.NumberOrders", spec := "numberOrders", inPlace := ["math/bits.Add64"], unfollowed := true, recurses := true, apart := false }
def NumberOrdersSaid : Prop := numberOrdersRow.holds Try.pinned (OpenSpec.ofChange numberOrdersSpec)

/-- ITS FALSE NEIGHBOUR: 'it returns false'. Refute it at one input. -/
def numberOrdersWrong : ChangeSpec := { name := "numberOrders", fn := fun _ => fun
  | [d1, d2, d3] => { results := [.lit (.bool false)], args := [d1, d2, d3] }
  | _ => none }
def NumberOrdersWrongFalsely : Prop := numberOrdersRow.holds Try.pinned (OpenSpec.ofChange numberOrdersWrong)

/-- 'agraffelaw01.NumberOctaves': WHATEVER THE INPUT: true; the input reads as it did. -/
def numberOctavesSpec : ChangeSpec := { name := "numberOctaves", fn := fun _ => fun
  | [d] => { results := [.lit (.bool true)], args := [d] }
  | _ => none }
def numberOctavesRow : OpenClaim := { program := "yteknkbcjpkmhlaa", sum := "5741161ca07e7e8861b3a907cab6c12dc56e8c3822305735bc27e6c9bca826f8", func := "agraffe/agraffelaw01.NumberOctaves", spec := "numberOctaves", inPlace := ["math/bits.Add64"], unfollowed := true, recurses := true, apart := false }
def NumberOctavesSaid : Prop := numberOctavesRow.holds Try.pinned (OpenSpec.ofChange numberOctavesSpec)

/-- ITS FALSE NEIGHBOUR: 'it returns false'. Refute it at one input. -/
def numberOctavesWrong : ChangeSpec := { name := "numberOctaves", fn := fun _ => fun
  | [d] => { results := [.lit (.bool false)], args := [d] }
  | _ => none }
def NumberOctavesWrongFalsely : Prop := numberOctavesRow.holds Try.pinned (OpenSpec.ofChange numberOctavesWrong)

/-- 'agraffelaw01.NumberEncloses': WHATEVER THE INPUT: true; the input reads as it did. -/
def numberEnclosesSpec : ChangeSpec := { name := "numberEncloses", fn := fun _ => fun
  | [d1, d2] => { results := [.lit (.bool true)], args := [d1, d2] }
  | _ => none }
def numberEnclosesRow : OpenClaim := { program := "yteknkbcjpkmhlaa", sum := "5741161ca07e7e8861b3a907cab6c12dc56e8c3822305735bc27e6c9bca826f8", func := "agraffe/agraffelaw01.NumberEncloses", spec := "numberEncloses", inPlace := ["math/bits.Add64"], unfollowed := true, recurses := true, apart := false }
def NumberEnclosesSaid : Prop := numberEnclosesRow.holds Try.pinned (OpenSpec.ofChange numberEnclosesSpec)

/-- ITS FALSE NEIGHBOUR: 'it returns false'. Refute it at one input. -/
def numberEnclosesWrong : ChangeSpec := { name := "numberEncloses", fn := fun _ => fun
  | [d1, d2] => { results := [.lit (.bool false)], args := [d1, d2] }
  | _ => none }
def NumberEnclosesWrongFalsely : Prop := numberEnclosesRow.holds Try.pinned (OpenSpec.ofChange numberEnclosesWrong)

/-- 'agraffetop.TopEnclosuresNest': WHATEVER THE INPUT: true; the input reads as it did. -/
def topEnclosuresNestSpec : ChangeSpec := { name := "topEnclosuresNest", fn := fun _ => fun
  | [d1, d2, d3] => { results := [.lit (.bool true)], args := [d1, d2, d3] }
  | _ => none }
def topEnclosuresNestRow : OpenClaim := { program := "yteknkbcjpkmhlaa", sum := "5741161ca07e7e8861b3a907cab6c12dc56e8c3822305735bc27e6c9bca826f8", func := "agraffe/agraffetop.TopEnclosuresNest", spec := "topEnclosuresNest", inPlace := ["math/bits.Add64"], unfollowed := true, recurses := true, apart := false }
def TopEnclosuresNestSaid : Prop := topEnclosuresNestRow.holds Try.pinned (OpenSpec.ofChange topEnclosuresNestSpec)

/-- ITS FALSE NEIGHBOUR: 'it returns false'. Refute it at one input. -/
def topEnclosuresNestWrong : ChangeSpec := { name := "topEnclosuresNest", fn := fun _ => fun
  | [d1, d2, d3] => { results := [.lit (.bool false)], args := [d1, d2, d3] }
  | _ => none }
def TopEnclosuresNestWrongFalsely : Prop := topEnclosuresNestRow.holds Try.pinned (OpenSpec.ofChange topEnclosuresNestWrong)

/- THE SECOND FORM. 'bulk': how many values and letters a reading holds, each counted each time it is reached (what is shared counts as often as it is met; a slice's spare places count too). A statement '..UptoSaid' is the law's where the arguments, and the package variables that the reading takes, are together of bulk at most 1048576: NARROWER than '..Said'. Prove '..Said' where nothing that the law and all that it calls make is longer than what came in: it says more and counts as full. Else prove '..UptoSaid'. A law counts once. -/
mutual
def uptoBulk {H : Type} : DataW H → Nat
  | .lit (.string bytes) => bytes.length + 1
  | .lit _ => 1
  | .nil => 1
  | .ptr d => uptoBulk d + 1
  | .slice elems spare => uptoBulkAll elems + uptoBulkAll spare + 1
  | .agg parts => uptoBulkAll parts + 1
  | .iface _ d => uptoBulk d + 1
  | .map entries => uptoBulkEntries entries + 1
  | .held _ => 1
def uptoBulkAll {H : Type} : List (DataW H) → Nat
  | [] => 0
  | d :: r => uptoBulk d + uptoBulkAll r
def uptoBulkEntries {H : Type} : List (Lit × DataW H) → Nat
  | [] => 0
  | x :: r => uptoBulkEntry x + uptoBulkEntries r
def uptoBulkEntry {H : Type} : Lit × DataW H → Nat
  | (.string bytes, d) => bytes.length + uptoBulk d + 1
  | (_, d) => uptoBulk d + 1
 end
def uptoSmall : (H : Type) → List (DataW H) → Bool := fun _ ds => decide (uptoBulkAll ds ≤ 1048576)
def OpenSpec.upto (s : _root_.Go.ChangeSpec) : _root_.Go.OpenSpec := { _root_.Go.OpenSpec.ofChange s with cond := some uptoSmall }

/-- 'agraffelaw01.NumberRoots', WHERE WHAT IT READS IS OF BULK AT MOST 1048576: true; the input reads as it did. -/
def numberRootsUptoRow : OpenClaim := { program := "yteknkbcjpkmhlaa", sum := "5741161ca07e7e8861b3a907cab6c12dc56e8c3822305735bc27e6c9bca826f8", func := "agraffe/agraffelaw01.NumberRoots", spec := "numberRoots", inPlace := ["math/bits.Add64"], unfollowed := true, recurses := true, apart := false, narrowed := true }
def NumberRootsUptoSaid : Prop := numberRootsUptoRow.holds Try.pinned (OpenSpec.upto numberRootsSpec)

/-- 'agraffelaw01.NumberFracs', WHERE WHAT IT READS IS OF BULK AT MOST 1048576: true; the input reads as it did. -/
def numberFracsUptoRow : OpenClaim := { program := "yteknkbcjpkmhlaa", sum := "5741161ca07e7e8861b3a907cab6c12dc56e8c3822305735bc27e6c9bca826f8", func := "agraffe/agraffelaw01.NumberFracs", spec := "numberFracs", inPlace := ["math/bits.Add64"], unfollowed := true, recurses := true, apart := false, narrowed := true }
def NumberFracsUptoSaid : Prop := numberFracsUptoRow.holds Try.pinned (OpenSpec.upto numberFracsSpec)

/-- 'agraffelaw01.NumberRounded', WHERE WHAT IT READS IS OF BULK AT MOST 1048576: true; the input reads as it did. -/
def numberRoundedUptoRow : OpenClaim := { program := "yteknkbcjpkmhlaa", sum := "5741161ca07e7e8861b3a907cab6c12dc56e8c3822305735bc27e6c9bca826f8", func := "agraffe/agraffelaw01.NumberRounded", spec := "numberRounded", inPlace := ["math/bits.Add64"], unfollowed := true, recurses := true, apart := false, narrowed := true }
def NumberRoundedUptoSaid : Prop := numberRoundedUptoRow.holds Try.pinned (OpenSpec.upto numberRoundedSpec)

/-- 'agraffelaw01.NumberRanges', WHERE WHAT IT READS IS OF BULK AT MOST 1048576: true; the input reads as it did. -/
def numberRangesUptoRow : OpenClaim := { program := "yteknkbcjpkmhlaa", sum := "5741161ca07e7e8861b3a907cab6c12dc56e8c3822305735bc27e6c9bca826f8", func := "agraffe/agraffelaw01.NumberRanges", spec := "numberRanges", inPlace := ["math/bits.Add64"], unfollowed := true, recurses := true, apart := false, narrowed := true }
def NumberRangesUptoSaid : Prop := numberRangesUptoRow.holds Try.pinned (OpenSpec.upto numberRangesSpec)

/-- 'agraffelaw01.NumberScaled', WHERE WHAT IT READS IS OF BULK AT MOST 1048576: true; the input reads as it did. -/
def numberScaledUptoRow : OpenClaim := { program := "yteknkbcjpkmhlaa", sum := "5741161ca07e7e8861b3a907cab6c12dc56e8c3822305735bc27e6c9bca826f8", func := "agraffe/agraffelaw01.NumberScaled", spec := "numberScaled", inPlace := ["math/bits.Add64"], unfollowed := true, recurses := true, named := ["math/bits.divideError", "math/bits.overflowError"], apart := false, narrowed := true }
def NumberScaledUptoSaid : Prop := numberScaledUptoRow.holds Try.pinned (OpenSpec.upto numberScaledSpec)

/-- 'agraffelaw01.NumberPitches', WHERE WHAT IT READS IS OF BULK AT MOST 1048576: true; the input reads as it did. -/
def numberPitchesUptoRow : OpenClaim := { program := "yteknkbcjpkmhlaa", sum := "5741161ca07e7e8861b3a907cab6c12dc56e8c3822305735bc27e6c9bca826f8", func := "agraffe/agraffelaw01.NumberPitches", spec := "numberPitches", inPlace := ["math/bits.Add64"], unfollowed := true, recurses := true, apart := false, narrowed := true }
def NumberPitchesUptoSaid : Prop := numberPitchesUptoRow.holds Try.pinned (OpenSpec.upto numberPitchesSpec)

/-- 'agraffelaw01.NumberPowers', WHERE WHAT IT READS IS OF BULK AT MOST 1048576: true; the input reads as it did. -/
def numberPowersUptoRow : OpenClaim := { program := "yteknkbcjpkmhlaa", sum := "5741161ca07e7e8861b3a907cab6c12dc56e8c3822305735bc27e6c9bca826f8", func := "agraffe/agraffelaw01.NumberPowers", spec := "numberPowers", inPlace := ["math/bits.Add64"], unfollowed := true, recurses := true, apart := false, narrowed := true }
def NumberPowersUptoSaid : Prop := numberPowersUptoRow.holds Try.pinned (OpenSpec.upto numberPowersSpec)

/-- 'agraffelaw01.NumberOrders', WHERE WHAT IT READS IS OF BULK AT MOST 1048576: true; the input reads as it did. -/
def numberOrdersUptoRow : OpenClaim := { program := "yteknkbcjpkmhlaa", sum := "5741161ca07e7e8861b3a907cab6c12dc56e8c3822305735bc27e6c9bca826f8", func := "agraffe/agraffelaw01.NumberOrders", spec := "numberOrders", inPlace := ["math/bits.Add64"], unfollowed := true, recurses := true, apart := false, narrowed := true }
def NumberOrdersUptoSaid : Prop := numberOrdersUptoRow.holds Try.pinned (OpenSpec.upto numberOrdersSpec)

/-- 'agraffelaw01.NumberOctaves', WHERE WHAT IT READS IS OF BULK AT MOST 1048576: true; the input reads as it did. -/
def numberOctavesUptoRow : OpenClaim := { program := "yteknkbcjpkmhlaa", sum := "5741161ca07e7e8861b3a907cab6c12dc56e8c3822305735bc27e6c9bca826f8", func := "agraffe/agraffelaw01.NumberOctaves", spec := "numberOctaves", inPlace := ["math/bits.Add64"], unfollowed := true, recurses := true, apart := false, narrowed := true }
def NumberOctavesUptoSaid : Prop := numberOctavesUptoRow.holds Try.pinned (OpenSpec.upto numberOctavesSpec)

/-- 'agraffelaw01.NumberEncloses', WHERE WHAT IT READS IS OF BULK AT MOST 1048576: true; the input reads as it did. -/
def numberEnclosesUptoRow : OpenClaim := { program := "yteknkbcjpkmhlaa", sum := "5741161ca07e7e8861b3a907cab6c12dc56e8c3822305735bc27e6c9bca826f8", func := "agraffe/agraffelaw01.NumberEncloses", spec := "numberEncloses", inPlace := ["math/bits.Add64"], unfollowed := true, recurses := true, apart := false, narrowed := true }
def NumberEnclosesUptoSaid : Prop := numberEnclosesUptoRow.holds Try.pinned (OpenSpec.upto numberEnclosesSpec)

/-- 'agraffetop.TopEnclosuresNest', WHERE WHAT IT READS IS OF BULK AT MOST 1048576: true; the input reads as it did. -/
def topEnclosuresNestUptoRow : OpenClaim := { program := "yteknkbcjpkmhlaa", sum := "5741161ca07e7e8861b3a907cab6c12dc56e8c3822305735bc27e6c9bca826f8", func := "agraffe/agraffetop.TopEnclosuresNest", spec := "topEnclosuresNest", inPlace := ["math/bits.Add64"], unfollowed := true, recurses := true, apart := false, narrowed := true }
def TopEnclosuresNestUptoSaid : Prop := topEnclosuresNestUptoRow.holds Try.pinned (OpenSpec.upto topEnclosuresNestSpec)

end Rows
end Go.Proofs.Yteknkbcjpkmhlaa
