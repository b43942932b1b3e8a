/-
  No cell of these rows narrows 'for every input' (looked for: loops, veiled, ifaces, maps, wideKeys, modest, calm, conditions, laid).
  DERIVED. THE GIVEN ROWS OF THIS SEAT. 6 by the template 'for every input the law returns true; each argument reads behind the call as it read before'; 0 by the template 'total and deterministic' (their statements: YtfmonpjoadjimaaTotals.lean).
  GIVEN WITH THE SEED: the statements are not yours to turn. If you find one false, say at which input.
  Laid BY PROGRAM, IN A SANDBOX (cutbox-rows.mjs): the forced cells as the released guide's own fill.sh prints them over the translation 453bb5429e1b6816… (all of the seat's roots in one cut). By AI agents, Wed Nov 11 2026. No macro, syntax, notation, axiom, sorry.
-/
import Derived.Test.YtfmonpjoadjimaaChecked
import GoSem.Claim
import GoSem.ClaimJoined
import GoSem.ClaimMapViews
import Derived.JoinedTies
import Derived.KernelRfl
namespace Go.Proofs.Ytfmonpjoadjimaa
/- THE CELL 'sum', in the pinned program and in every row, IS THE sha256 OF THE DUMP (.gsa) THAT YtfmonpjoadjimaaProg.lean LOADS. Nothing in Lean hashes anything: it is a label: what it is worth is what the hold of that sum in a sandbox is worth. -/
noncomputable def Try.pinned : Pinned := { name := "ytfmonpjoadjimaa", sum := "453bb5429e1b68162e54997c272b73422ba0297fd711639ac7400602ff60f187", checked := Try.checked }
namespace Rows
def none {H : Type} : Left H := { results := [], args := [] }

/-- 'agraffelaw01.NumberFracs': WHATEVER THE INPUT: true; the input reads as it did. -/
def numberFracsSpec : ChangeSpec := { name := "numberFracs", fn := fun _ => fun
  | [d1, d2] => { results := [.lit (.bool true)], args := [d1, d2] }
  | _ => none }
def numberFracsRow : OpenClaim := { program := "ytfmonpjoadjimaa", sum := "453bb5429e1b68162e54997c272b73422ba0297fd711639ac7400602ff60f187", func := "agraffe/agraffelaw01.NumberFracs", spec := "numberFracs", inPlace := ["math/bits.Add64"], unfollowed := true, recurses := true, apart := false }
def NumberFracsSaid : Prop := numberFracsRow.holds Try.pinned (OpenSpec.ofChange numberFracsSpec)

/-- ITS FALSE NEIGHBOUR: 'it returns false'. Refute it at one input. -/
def numberFracsWrong : ChangeSpec := { name := "numberFracs", fn := fun _ => fun
  | [d1, d2] => { results := [.lit (.bool false)], args := [d1, d2] }
  | _ => none }
def NumberFracsWrongFalsely : Prop := numberFracsRow.holds Try.pinned (OpenSpec.ofChange numberFracsWrong)

/-- 'agraffelaw01.NumberRounded': WHATEVER THE INPUT: true; the input reads as it did. -/
def numberRoundedSpec : ChangeSpec := { name := "numberRounded", fn := fun _ => fun
  | [d1, d2] => { results := [.lit (.bool true)], args := [d1, d2] }
  | _ => none }
def numberRoundedRow : OpenClaim := { program := "ytfmonpjoadjimaa", sum := "453bb5429e1b68162e54997c272b73422ba0297fd711639ac7400602ff60f187", func := "agraffe/agraffelaw01.NumberRounded", spec := "numberRounded", inPlace := ["math/bits.Add64"], unfollowed := true, recurses := true, apart := false }
def NumberRoundedSaid : Prop := numberRoundedRow.holds Try.pinned (OpenSpec.ofChange numberRoundedSpec)

/-- ITS FALSE NEIGHBOUR: 'it returns false'. Refute it at one input. -/
def numberRoundedWrong : ChangeSpec := { name := "numberRounded", fn := fun _ => fun
  | [d1, d2] => { results := [.lit (.bool false)], args := [d1, d2] }
  | _ => none }
def NumberRoundedWrongFalsely : Prop := numberRoundedRow.holds Try.pinned (OpenSpec.ofChange numberRoundedWrong)

/-- 'agraffelaw01.NumberRoots': WHATEVER THE INPUT: true; the input reads as it did. -/
def numberRootsSpec : ChangeSpec := { name := "numberRoots", fn := fun _ => fun
  | [d1, d2] => { results := [.lit (.bool true)], args := [d1, d2] }
  | _ => none }
def numberRootsRow : OpenClaim := { program := "ytfmonpjoadjimaa", sum := "453bb5429e1b68162e54997c272b73422ba0297fd711639ac7400602ff60f187", func := "agraffe/agraffelaw01.NumberRoots", spec := "numberRoots", inPlace := ["math/bits.Add64"], unfollowed := true, recurses := true, apart := false }
def NumberRootsSaid : Prop := numberRootsRow.holds Try.pinned (OpenSpec.ofChange numberRootsSpec)

/-- ITS FALSE NEIGHBOUR: 'it returns false'. Refute it at one input. -/
def numberRootsWrong : ChangeSpec := { name := "numberRoots", fn := fun _ => fun
  | [d1, d2] => { results := [.lit (.bool false)], args := [d1, d2] }
  | _ => none }
def NumberRootsWrongFalsely : Prop := numberRootsRow.holds Try.pinned (OpenSpec.ofChange numberRootsWrong)

/-- 'agraffelaw01.NumberPitches': WHATEVER THE INPUT: true; the input reads as it did. -/
def numberPitchesSpec : ChangeSpec := { name := "numberPitches", fn := fun _ => fun
  | [d1, d2] => { results := [.lit (.bool true)], args := [d1, d2] }
  | _ => none }
def numberPitchesRow : OpenClaim := { program := "ytfmonpjoadjimaa", sum := "453bb5429e1b68162e54997c272b73422ba0297fd711639ac7400602ff60f187", func := "agraffe/agraffelaw01.NumberPitches", spec := "numberPitches", inPlace := ["math/bits.Add64"], unfollowed := true, recurses := true, apart := false }
def NumberPitchesSaid : Prop := numberPitchesRow.holds Try.pinned (OpenSpec.ofChange numberPitchesSpec)

/-- ITS FALSE NEIGHBOUR: 'it returns false'. Refute it at one input. -/
def numberPitchesWrong : ChangeSpec := { name := "numberPitches", fn := fun _ => fun
  | [d1, d2] => { results := [.lit (.bool false)], args := [d1, d2] }
  | _ => none }
def NumberPitchesWrongFalsely : Prop := numberPitchesRow.holds Try.pinned (OpenSpec.ofChange numberPitchesWrong)

/-- 'agraffelaw01.NumberPowers': WHATEVER THE INPUT: true; the input reads as it did. -/
def numberPowersSpec : ChangeSpec := { name := "numberPowers", fn := fun _ => fun
  | [d1, d2] => { results := [.lit (.bool true)], args := [d1, d2] }
  | _ => none }
def numberPowersRow : OpenClaim := { program := "ytfmonpjoadjimaa", sum := "453bb5429e1b68162e54997c272b73422ba0297fd711639ac7400602ff60f187", func := "agraffe/agraffelaw01.NumberPowers", spec := "numberPowers", inPlace := ["math/bits.Add64"], unfollowed := true, recurses := true, apart := false }
def NumberPowersSaid : Prop := numberPowersRow.holds Try.pinned (OpenSpec.ofChange numberPowersSpec)

/-- ITS FALSE NEIGHBOUR: 'it returns false'. Refute it at one input. -/
def numberPowersWrong : ChangeSpec := { name := "numberPowers", fn := fun _ => fun
  | [d1, d2] => { results := [.lit (.bool false)], args := [d1, d2] }
  | _ => none }
def NumberPowersWrongFalsely : Prop := numberPowersRow.holds Try.pinned (OpenSpec.ofChange numberPowersWrong)

/-- 'agraffelaw01.NumberOrders': WHATEVER THE INPUT: true; the input reads as it did. -/
def numberOrdersSpec : ChangeSpec := { name := "numberOrders", fn := fun _ => fun
  | [d1, d2, d3] => { results := [.lit (.bool true)], args := [d1, d2, d3] }
  | _ => none }
def numberOrdersRow : OpenClaim := { program := "ytfmonpjoadjimaa", sum := "453bb5429e1b68162e54997c272b73422ba0297fd711639ac7400602ff60f187", func := "agraffe/agraffelaw01.NumberOrders", spec := "numberOrders", inPlace := ["math/bits.Add64"], unfollowed := true, recurses := true, apart := false }
def NumberOrdersSaid : Prop := numberOrdersRow.holds Try.pinned (OpenSpec.ofChange numberOrdersSpec)

/-- ITS FALSE NEIGHBOUR: 'it returns false'. Refute it at one input. -/
def numberOrdersWrong : ChangeSpec := { name := "numberOrders", fn := fun _ => fun
  | [d1, d2, d3] => { results := [.lit (.bool false)], args := [d1, d2, d3] }
  | _ => none }
def NumberOrdersWrongFalsely : Prop := numberOrdersRow.holds Try.pinned (OpenSpec.ofChange numberOrdersWrong)

/- THE SECOND FORM. 'bulk': how many values and letters a reading holds, each counted each time it is reached (what is shared counts as often as it is met; a slice's spare places count too). A statement '..UptoSaid' is the law's where the arguments, and the package variables that the reading takes, are together of bulk at most 1048576: NARROWER than '..Said'. Prove '..Said' where nothing that the law and all that it calls make is longer than what came in: it says more and counts as full. Else prove '..UptoSaid'. A law counts once. -/
mutual
def uptoBulk {H : Type} : DataW H → Nat
  | .lit (.string bytes) => bytes.length + 1
  | .lit _ => 1
  | .nil => 1
  | .ptr d => uptoBulk d + 1
  | .slice elems spare => uptoBulkAll elems + uptoBulkAll spare + 1
  | .agg parts => uptoBulkAll parts + 1
  | .iface _ d => uptoBulk d + 1
  | .map entries => uptoBulkEntries entries + 1
  | .held _ => 1
def uptoBulkAll {H : Type} : List (DataW H) → Nat
  | [] => 0
  | d :: r => uptoBulk d + uptoBulkAll r
def uptoBulkEntries {H : Type} : List (Lit × DataW H) → Nat
  | [] => 0
  | x :: r => uptoBulkEntry x + uptoBulkEntries r
def uptoBulkEntry {H : Type} : Lit × DataW H → Nat
  | (.string bytes, d) => bytes.length + uptoBulk d + 1
  | (_, d) => uptoBulk d + 1
 end
def uptoSmall : (H : Type) → List (DataW H) → Bool := fun _ ds => decide (uptoBulkAll ds ≤ 1048576)
def OpenSpec.upto (s : _root_.Go.ChangeSpec) : _root_.Go.OpenSpec := { _root_.Go.OpenSpec.ofChange s with cond := some uptoSmall }

/-- 'agraffelaw01.NumberFracs', WHERE WHAT IT READS IS OF BULK AT MOST 1048576: true; the input reads as it did. -/
def numberFracsUptoRow : OpenClaim := { program := "ytfmonpjoadjimaa", sum := "453bb5429e1b68162e54997c272b73422ba0297fd711639ac7400602ff60f187", func := "agraffe/agraffelaw01.NumberFracs", spec := "numberFracs", inPlace := ["math/bits.Add64"], unfollowed := true, recurses := true, apart := false, narrowed := true }
def NumberFracsUptoSaid : Prop := numberFracsUptoRow.holds Try.pinned (OpenSpec.upto numberFracsSpec)

/-- 'agraffelaw01.NumberRounded', WHERE WHAT IT READS IS OF BULK AT MOST 1048576: true; the input reads as it did. -/
def numberRoundedUptoRow : OpenClaim := { program := "ytfmonpjoadjimaa", sum := "453bb5429e1b68162e54997c272b73422ba0297fd711639ac7400602ff60f187", func := "agraffe/agraffelaw01.NumberRounded", spec := "numberRounded", inPlace := ["math/bits.Add64"], unfollowed := true, recurses := true, apart := false, narrowed := true }
def NumberRoundedUptoSaid : Prop := numberRoundedUptoRow.holds Try.pinned (OpenSpec.upto numberRoundedSpec)

/-- 'agraffelaw01.NumberRoots', WHERE WHAT IT READS IS OF BULK AT MOST 1048576: true; the input reads as it did. -/
def numberRootsUptoRow : OpenClaim := { program := "ytfmonpjoadjimaa", sum := "453bb5429e1b68162e54997c272b73422ba0297fd711639ac7400602ff60f187", func := "agraffe/agraffelaw01.NumberRoots", spec := "numberRoots", inPlace := ["math/bits.Add64"], unfollowed := true, recurses := true, apart := false, narrowed := true }
def NumberRootsUptoSaid : Prop := numberRootsUptoRow.holds Try.pinned (OpenSpec.upto numberRootsSpec)

/-- 'agraffelaw01.NumberPitches', WHERE WHAT IT READS IS OF BULK AT MOST 1048576: true; the input reads as it did. -/
def numberPitchesUptoRow : OpenClaim := { program := "ytfmonpjoadjimaa", sum := "453bb5429e1b68162e54997c272b73422ba0297fd711639ac7400602ff60f187", func := "agraffe/agraffelaw01.NumberPitches", spec := "numberPitches", inPlace := ["math/bits.Add64"], unfollowed := true, recurses := true, apart := false, narrowed := true }
def NumberPitchesUptoSaid : Prop := numberPitchesUptoRow.holds Try.pinned (OpenSpec.upto numberPitchesSpec)

/-- 'agraffelaw01.NumberPowers', WHERE WHAT IT READS IS OF BULK AT MOST 1048576: true; the input reads as it did. -/
def numberPowersUptoRow : OpenClaim := { program := "ytfmonpjoadjimaa", sum := "453bb5429e1b68162e54997c272b73422ba0297fd711639ac7400602ff60f187", func := "agraffe/agraffelaw01.NumberPowers", spec := "numberPowers", inPlace := ["math/bits.Add64"], unfollowed := true, recurses := true, apart := false, narrowed := true }
def NumberPowersUptoSaid : Prop := numberPowersUptoRow.holds Try.pinned (OpenSpec.upto numberPowersSpec)

/-- 'agraffelaw01.NumberOrders', WHERE WHAT IT READS IS OF BULK AT MOST 1048576: true; the input reads as it did. -/
def numberOrdersUptoRow : OpenClaim := { program := "ytfmonpjoadjimaa", sum := "453bb5429e1b68162e54997c272b73422ba0297fd711639ac7400602ff60f187", func := "agraffe/agraffelaw01.NumberOrders", spec := "numberOrders", inPlace := ["math/bits.Add64"], unfollowed := true, recurses := true, apart := false, narrowed := true }
def NumberOrdersUptoSaid : Prop := numberOrdersUptoRow.holds Try.pinned (OpenSpec.upto numberOrdersSpec)

end Rows
end Go.Proofs.Ytfmonpjoadjimaa
