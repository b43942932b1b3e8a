/-
  No cell of these rows narrows 'for every input' (looked for: loops, veiled, ifaces, maps, wideKeys, modest, calm, conditions, laid).
  DERIVED. THE GIVEN ROWS OF THIS SEAT. 12 by the template 'for every input the law returns true; each argument reads behind the call as it read before'; 0 by the template 'total and deterministic' (their statements: YtdhbjklbgdnfmaaTotals.lean).
  GIVEN WITH THE SEED: the statements are not yours to turn. If you find one false, say at which input.
  Laid BY PROGRAM, IN A SANDBOX (cutbox-rows.mjs): the forced cells as the released guide's own fill.sh prints them over the translation 5a580db9c2186743… (all of the seat's roots in one cut). By AI agents, Wed Nov 11 2026. No macro, syntax, notation, axiom, sorry.
-/
import Derived.Test.YtdhbjklbgdnfmaaChecked
import GoSem.Claim
import GoSem.ClaimJoined
import GoSem.ClaimMapViews
import Derived.JoinedTies
import Derived.KernelRfl
namespace Go.Proofs.Ytdhbjklbgdnfmaa
/- THE CELL 'sum', in the pinned program and in every row, IS THE sha256 OF THE DUMP (.gsa) THAT YtdhbjklbgdnfmaaProg.lean LOADS. Nothing in Lean hashes anything: it is a label: what it is worth is what the hold of that sum in a sandbox is worth. -/
noncomputable def Try.pinned : Pinned := { name := "ytdhbjklbgdnfmaa", sum := "5a580db9c2186743d8e65ae0af1300f8ef703116fb10537b2d5756741820d58a", checked := Try.checked }
namespace Rows
def none {H : Type} : Left H := { results := [], args := [] }

/-- 'agraffetop.TopLinesTilt': WHATEVER THE INPUT: true; the input reads as it did. -/
def topLinesTiltSpec : ChangeSpec := { name := "topLinesTilt", fn := fun _ => fun
  | [d1, d2, d3] => { results := [.lit (.bool true)], args := [d1, d2, d3] }
  | _ => none }
def topLinesTiltRow : OpenClaim := { program := "ytdhbjklbgdnfmaa", sum := "5a580db9c2186743d8e65ae0af1300f8ef703116fb10537b2d5756741820d58a", func := "agraffe/agraffetop.TopLinesTilt", spec := "topLinesTilt", inPlace := ["math/bits.Add64"], unfollowed := true, recurses := true, apart := false }
def TopLinesTiltSaid : Prop := topLinesTiltRow.holds Try.pinned (OpenSpec.ofChange topLinesTiltSpec)

/-- ITS FALSE NEIGHBOUR: 'it returns false'. Refute it at one input. -/
def topLinesTiltWrong : ChangeSpec := { name := "topLinesTilt", fn := fun _ => fun
  | [d1, d2, d3] => { results := [.lit (.bool false)], args := [d1, d2, d3] }
  | _ => none }
def TopLinesTiltWrongFalsely : Prop := topLinesTiltRow.holds Try.pinned (OpenSpec.ofChange topLinesTiltWrong)

/-- 'agraffelaw03.PlatePulls': WHATEVER THE INPUT: true; the input reads as it did. -/
def platePullsSpec : ChangeSpec := { name := "platePulls", fn := fun _ => fun
  | [d1, d2] => { results := [.lit (.bool true)], args := [d1, d2] }
  | _ => none }
def platePullsRow : OpenClaim := { program := "ytdhbjklbgdnfmaa", sum := "5a580db9c2186743d8e65ae0af1300f8ef703116fb10537b2d5756741820d58a", func := "agraffe/agraffelaw03.PlatePulls", spec := "platePulls", unfollowed := true, recurses := true, apart := false }
def PlatePullsSaid : Prop := platePullsRow.holds Try.pinned (OpenSpec.ofChange platePullsSpec)

/-- ITS FALSE NEIGHBOUR: 'it returns false'. Refute it at one input. -/
def platePullsWrong : ChangeSpec := { name := "platePulls", fn := fun _ => fun
  | [d1, d2] => { results := [.lit (.bool false)], args := [d1, d2] }
  | _ => none }
def PlatePullsWrongFalsely : Prop := platePullsRow.holds Try.pinned (OpenSpec.ofChange platePullsWrong)

/-- 'agraffelaw03.PlateForces': WHATEVER THE INPUT: true; the input reads as it did. -/
def plateForcesSpec : ChangeSpec := { name := "plateForces", fn := fun _ => fun
  | [d1, d2] => { results := [.lit (.bool true)], args := [d1, d2] }
  | _ => none }
def plateForcesRow : OpenClaim := { program := "ytdhbjklbgdnfmaa", sum := "5a580db9c2186743d8e65ae0af1300f8ef703116fb10537b2d5756741820d58a", func := "agraffe/agraffelaw03.PlateForces", spec := "plateForces", unfollowed := true, recurses := true, apart := false }
def PlateForcesSaid : Prop := plateForcesRow.holds Try.pinned (OpenSpec.ofChange plateForcesSpec)

/-- ITS FALSE NEIGHBOUR: 'it returns false'. Refute it at one input. -/
def plateForcesWrong : ChangeSpec := { name := "plateForces", fn := fun _ => fun
  | [d1, d2] => { results := [.lit (.bool false)], args := [d1, d2] }
  | _ => none }
def PlateForcesWrongFalsely : Prop := plateForcesRow.holds Try.pinned (OpenSpec.ofChange plateForcesWrong)

/-- 'agraffelaw03.PlateBalances': WHATEVER THE INPUT: true; the input reads as it did. -/
def plateBalancesSpec : ChangeSpec := { name := "plateBalances", fn := fun _ => fun
  | [d1, d2] => { results := [.lit (.bool true)], args := [d1, d2] }
  | _ => none }
def plateBalancesRow : OpenClaim := { program := "ytdhbjklbgdnfmaa", sum := "5a580db9c2186743d8e65ae0af1300f8ef703116fb10537b2d5756741820d58a", func := "agraffe/agraffelaw03.PlateBalances", spec := "plateBalances", unfollowed := true, recurses := true, apart := false }
def PlateBalancesSaid : Prop := plateBalancesRow.holds Try.pinned (OpenSpec.ofChange plateBalancesSpec)

/-- ITS FALSE NEIGHBOUR: 'it returns false'. Refute it at one input. -/
def plateBalancesWrong : ChangeSpec := { name := "plateBalances", fn := fun _ => fun
  | [d1, d2] => { results := [.lit (.bool false)], args := [d1, d2] }
  | _ => none }
def PlateBalancesWrongFalsely : Prop := plateBalancesRow.holds Try.pinned (OpenSpec.ofChange plateBalancesWrong)

/-- 'agraffelaw03.PlateMoves': WHATEVER THE INPUT: true; the input reads as it did. -/
def plateMovesSpec : ChangeSpec := { name := "plateMoves", fn := fun _ => fun
  | [d1, d2] => { results := [.lit (.bool true)], args := [d1, d2] }
  | _ => none }
def plateMovesRow : OpenClaim := { program := "ytdhbjklbgdnfmaa", sum := "5a580db9c2186743d8e65ae0af1300f8ef703116fb10537b2d5756741820d58a", func := "agraffe/agraffelaw03.PlateMoves", spec := "plateMoves", unfollowed := true, recurses := true, apart := false }
def PlateMovesSaid : Prop := plateMovesRow.holds Try.pinned (OpenSpec.ofChange plateMovesSpec)

/-- ITS FALSE NEIGHBOUR: 'it returns false'. Refute it at one input. -/
def plateMovesWrong : ChangeSpec := { name := "plateMoves", fn := fun _ => fun
  | [d1, d2] => { results := [.lit (.bool false)], args := [d1, d2] }
  | _ => none }
def PlateMovesWrongFalsely : Prop := plateMovesRow.holds Try.pinned (OpenSpec.ofChange plateMovesWrong)

/-- 'agraffelaw03.PlateShifts': WHATEVER THE INPUT: true; the input reads as it did. -/
def plateShiftsSpec : ChangeSpec := { name := "plateShifts", fn := fun _ => fun
  | [d1, d2] => { results := [.lit (.bool true)], args := [d1, d2] }
  | _ => none }
def plateShiftsRow : OpenClaim := { program := "ytdhbjklbgdnfmaa", sum := "5a580db9c2186743d8e65ae0af1300f8ef703116fb10537b2d5756741820d58a", func := "agraffe/agraffelaw03.PlateShifts", spec := "plateShifts", unfollowed := true, recurses := true, apart := false }
def PlateShiftsSaid : Prop := plateShiftsRow.holds Try.pinned (OpenSpec.ofChange plateShiftsSpec)

/-- ITS FALSE NEIGHBOUR: 'it returns false'. Refute it at one input. -/
def plateShiftsWrong : ChangeSpec := { name := "plateShifts", fn := fun _ => fun
  | [d1, d2] => { results := [.lit (.bool false)], args := [d1, d2] }
  | _ => none }
def PlateShiftsWrongFalsely : Prop := plateShiftsRow.holds Try.pinned (OpenSpec.ofChange plateShiftsWrong)

/-- 'agraffelaw03.PlateBars': WHATEVER THE INPUT: true; the input reads as it did. -/
def plateBarsSpec : ChangeSpec := { name := "plateBars", fn := fun _ => fun
  | [d1, d2] => { results := [.lit (.bool true)], args := [d1, d2] }
  | _ => none }
def plateBarsRow : OpenClaim := { program := "ytdhbjklbgdnfmaa", sum := "5a580db9c2186743d8e65ae0af1300f8ef703116fb10537b2d5756741820d58a", func := "agraffe/agraffelaw03.PlateBars", spec := "plateBars", unfollowed := true, recurses := true, apart := false }
def PlateBarsSaid : Prop := plateBarsRow.holds Try.pinned (OpenSpec.ofChange plateBarsSpec)

/-- ITS FALSE NEIGHBOUR: 'it returns false'. Refute it at one input. -/
def plateBarsWrong : ChangeSpec := { name := "plateBars", fn := fun _ => fun
  | [d1, d2] => { results := [.lit (.bool false)], args := [d1, d2] }
  | _ => none }
def PlateBarsWrongFalsely : Prop := plateBarsRow.holds Try.pinned (OpenSpec.ofChange plateBarsWrong)

/-- 'agraffelaw03.PlateLevers': WHATEVER THE INPUT: true; the input reads as it did. -/
def plateLeversSpec : ChangeSpec := { name := "plateLevers", fn := fun _ => fun
  | [d1, d2] => { results := [.lit (.bool true)], args := [d1, d2] }
  | _ => none }
def plateLeversRow : OpenClaim := { program := "ytdhbjklbgdnfmaa", sum := "5a580db9c2186743d8e65ae0af1300f8ef703116fb10537b2d5756741820d58a", func := "agraffe/agraffelaw03.PlateLevers", spec := "plateLevers", unfollowed := true, recurses := true, apart := false }
def PlateLeversSaid : Prop := plateLeversRow.holds Try.pinned (OpenSpec.ofChange plateLeversSpec)

/-- ITS FALSE NEIGHBOUR: 'it returns false'. Refute it at one input. -/
def plateLeversWrong : ChangeSpec := { name := "plateLevers", fn := fun _ => fun
  | [d1, d2] => { results := [.lit (.bool false)], args := [d1, d2] }
  | _ => none }
def PlateLeversWrongFalsely : Prop := plateLeversRow.holds Try.pinned (OpenSpec.ofChange plateLeversWrong)

/-- 'agraffelaw03.PlateGirders': WHATEVER THE INPUT: true; the input reads as it did. -/
def plateGirdersSpec : ChangeSpec := { name := "plateGirders", fn := fun _ => fun
  | [d1, d2] => { results := [.lit (.bool true)], args := [d1, d2] }
  | _ => none }
def plateGirdersRow : OpenClaim := { program := "ytdhbjklbgdnfmaa", sum := "5a580db9c2186743d8e65ae0af1300f8ef703116fb10537b2d5756741820d58a", func := "agraffe/agraffelaw03.PlateGirders", spec := "plateGirders", unfollowed := true, recurses := true, apart := false }
def PlateGirdersSaid : Prop := plateGirdersRow.holds Try.pinned (OpenSpec.ofChange plateGirdersSpec)

/-- ITS FALSE NEIGHBOUR: 'it returns false'. Refute it at one input. -/
def plateGirdersWrong : ChangeSpec := { name := "plateGirders", fn := fun _ => fun
  | [d1, d2] => { results := [.lit (.bool false)], args := [d1, d2] }
  | _ => none }
def PlateGirdersWrongFalsely : Prop := plateGirdersRow.holds Try.pinned (OpenSpec.ofChange plateGirdersWrong)

/-- 'agraffelaw03.PlateBends': WHATEVER THE INPUT: true; the input reads as it did. -/
def plateBendsSpec : ChangeSpec := { name := "plateBends", fn := fun _ => fun
  | [d1, d2, d3] => { results := [.lit (.bool true)], args := [d1, d2, d3] }
  | _ => none }
def plateBendsRow : OpenClaim := { program := "ytdhbjklbgdnfmaa", sum := "5a580db9c2186743d8e65ae0af1300f8ef703116fb10537b2d5756741820d58a", func := "agraffe/agraffelaw03.PlateBends", spec := "plateBends", unfollowed := true, recurses := true, apart := false }
def PlateBendsSaid : Prop := plateBendsRow.holds Try.pinned (OpenSpec.ofChange plateBendsSpec)

/-- ITS FALSE NEIGHBOUR: 'it returns false'. Refute it at one input. -/
def plateBendsWrong : ChangeSpec := { name := "plateBends", fn := fun _ => fun
  | [d1, d2, d3] => { results := [.lit (.bool false)], args := [d1, d2, d3] }
  | _ => none }
def PlateBendsWrongFalsely : Prop := plateBendsRow.holds Try.pinned (OpenSpec.ofChange plateBendsWrong)

/-- 'agraffelaw03.PlateBearings': WHATEVER THE INPUT: true; the input reads as it did. -/
def plateBearingsSpec : ChangeSpec := { name := "plateBearings", fn := fun _ => fun
  | [d1, d2] => { results := [.lit (.bool true)], args := [d1, d2] }
  | _ => none }
def plateBearingsRow : OpenClaim := { program := "ytdhbjklbgdnfmaa", sum := "5a580db9c2186743d8e65ae0af1300f8ef703116fb10537b2d5756741820d58a", func := "agraffe/agraffelaw03.PlateBearings", spec := "plateBearings", unfollowed := true, recurses := true, apart := false }
def PlateBearingsSaid : Prop := plateBearingsRow.holds Try.pinned (OpenSpec.ofChange plateBearingsSpec)

/-- ITS FALSE NEIGHBOUR: 'it returns false'. Refute it at one input. -/
def plateBearingsWrong : ChangeSpec := { name := "plateBearings", fn := fun _ => fun
  | [d1, d2] => { results := [.lit (.bool false)], args := [d1, d2] }
  | _ => none }
def PlateBearingsWrongFalsely : Prop := plateBearingsRow.holds Try.pinned (OpenSpec.ofChange plateBearingsWrong)

/-- 'agraffelaw03.PlateMargins': WHATEVER THE INPUT: true; the input reads as it did. -/
def plateMarginsSpec : ChangeSpec := { name := "plateMargins", fn := fun _ => fun
  | [d1, d2] => { results := [.lit (.bool true)], args := [d1, d2] }
  | _ => none }
def plateMarginsRow : OpenClaim := { program := "ytdhbjklbgdnfmaa", sum := "5a580db9c2186743d8e65ae0af1300f8ef703116fb10537b2d5756741820d58a", func := "agraffe/agraffelaw03.PlateMargins", spec := "plateMargins", unfollowed := true, recurses := true, apart := false }
def PlateMarginsSaid : Prop := plateMarginsRow.holds Try.pinned (OpenSpec.ofChange plateMarginsSpec)

/-- ITS FALSE NEIGHBOUR: 'it returns false'. Refute it at one input. -/
def plateMarginsWrong : ChangeSpec := { name := "plateMargins", fn := fun _ => fun
  | [d1, d2] => { results := [.lit (.bool false)], args := [d1, d2] }
  | _ => none }
def PlateMarginsWrongFalsely : Prop := plateMarginsRow.holds Try.pinned (OpenSpec.ofChange plateMarginsWrong)

/- THE SECOND FORM. 'bulk': how many values and letters a reading holds, each counted each time it is reached (what is shared counts as often as it is met; a slice's spare places count too). A statement '..UptoSaid' is the law's where the arguments, and the package variables that the reading takes, are together of bulk at most 1048576: NARROWER than '..Said'. Prove '..Said' where nothing that the law and all that it calls make is longer than what came in: it says more and counts as full. Else prove '..UptoSaid'. A law counts once. -/
mutual
def uptoBulk {H : Type} : DataW H → Nat
  | .lit (.string bytes) => bytes.length + 1
  | .lit _ => 1
  | .nil => 1
  | .ptr d => uptoBulk d + 1
  | .slice elems spare => uptoBulkAll elems + uptoBulkAll spare + 1
  | .agg parts => uptoBulkAll parts + 1
  | .iface _ d => uptoBulk d + 1
  | .map entries => uptoBulkEntries entries + 1
  | .held _ => 1
def uptoBulkAll {H : Type} : List (DataW H) → Nat
  | [] => 0
  | d :: r => uptoBulk d + uptoBulkAll r
def uptoBulkEntries {H : Type} : List (Lit × DataW H) → Nat
  | [] => 0
  | x :: r => uptoBulkEntry x + uptoBulkEntries r
def uptoBulkEntry {H : Type} : Lit × DataW H → Nat
  | (.string bytes, d) => bytes.length + uptoBulk d + 1
  | (_, d) => uptoBulk d + 1
 end
def uptoSmall : (H : Type) → List (DataW H) → Bool := fun _ ds => decide (uptoBulkAll ds ≤ 1048576)
def OpenSpec.upto (s : _root_.Go.ChangeSpec) : _root_.Go.OpenSpec := { _root_.Go.OpenSpec.ofChange s with cond := some uptoSmall }

/-- 'agraffetop.TopLinesTilt', WHERE WHAT IT READS IS OF BULK AT MOST 1048576: true; the input reads as it did. -/
def topLinesTiltUptoRow : OpenClaim := { program := "ytdhbjklbgdnfmaa", sum := "5a580db9c2186743d8e65ae0af1300f8ef703116fb10537b2d5756741820d58a", func := "agraffe/agraffetop.TopLinesTilt", spec := "topLinesTilt", inPlace := ["math/bits.Add64"], unfollowed := true, recurses := true, apart := false, narrowed := true }
def TopLinesTiltUptoSaid : Prop := topLinesTiltUptoRow.holds Try.pinned (OpenSpec.upto topLinesTiltSpec)

/-- 'agraffelaw03.PlatePulls', WHERE WHAT IT READS IS OF BULK AT MOST 1048576: true; the input reads as it did. -/
def platePullsUptoRow : OpenClaim := { program := "ytdhbjklbgdnfmaa", sum := "5a580db9c2186743d8e65ae0af1300f8ef703116fb10537b2d5756741820d58a", func := "agraffe/agraffelaw03.PlatePulls", spec := "platePulls", unfollowed := true, recurses := true, apart := false, narrowed := true }
def PlatePullsUptoSaid : Prop := platePullsUptoRow.holds Try.pinned (OpenSpec.upto platePullsSpec)

/-- 'agraffelaw03.PlateForces', WHERE WHAT IT READS IS OF BULK AT MOST 1048576: true; the input reads as it did. -/
def plateForcesUptoRow : OpenClaim := { program := "ytdhbjklbgdnfmaa", sum := "5a580db9c2186743d8e65ae0af1300f8ef703116fb10537b2d5756741820d58a", func := "agraffe/agraffelaw03.PlateForces", spec := "plateForces", unfollowed := true, recurses := true, apart := false, narrowed := true }
def PlateForcesUptoSaid : Prop := plateForcesUptoRow.holds Try.pinned (OpenSpec.upto plateForcesSpec)

/-- 'agraffelaw03.PlateBalances', WHERE WHAT IT READS IS OF BULK AT MOST 1048576: true; the input reads as it did. -/
def plateBalancesUptoRow : OpenClaim := { program := "ytdhbjklbgdnfmaa", sum := "5a580db9c2186743d8e65ae0af1300f8ef703116fb10537b2d5756741820d58a", func := "agraffe/agraffelaw03.PlateBalances", spec := "plateBalances", unfollowed := true, recurses := true, apart := false, narrowed := true }
def PlateBalancesUptoSaid : Prop := plateBalancesUptoRow.holds Try.pinned (OpenSpec.upto plateBalancesSpec)

/-- 'agraffelaw03.PlateMoves', WHERE WHAT IT READS IS OF BULK AT MOST 1048576: true; the input reads as it did. -/
def plateMovesUptoRow : OpenClaim := { program := "ytdhbjklbgdnfmaa", sum := "5a580db9c2186743d8e65ae0af1300f8ef703116fb10537b2d5756741820d58a", func := "agraffe/agraffelaw03.PlateMoves", spec := "plateMoves", unfollowed := true, recurses := true, apart := false, narrowed := true }
def PlateMovesUptoSaid : Prop := plateMovesUptoRow.holds Try.pinned (OpenSpec.upto plateMovesSpec)

/-- 'agraffelaw03.PlateShifts', WHERE WHAT IT READS IS OF BULK AT MOST 1048576: true; the input reads as it did. -/
def plateShiftsUptoRow : OpenClaim := { program := "ytdhbjklbgdnfmaa", sum := "5a580db9c2186743d8e65ae0af1300f8ef703116fb10537b2d5756741820d58a", func := "agraffe/agraffelaw03.PlateShifts", spec := "plateShifts", unfollowed := true, recurses := true, apart := false, narrowed := true }
def PlateShiftsUptoSaid : Prop := plateShiftsUptoRow.holds Try.pinned (OpenSpec.upto plateShiftsSpec)

/-- 'agraffelaw03.PlateBars', WHERE WHAT IT READS IS OF BULK AT MOST 1048576: true; the input reads as it did. -/
def plateBarsUptoRow : OpenClaim := { program := "ytdhbjklbgdnfmaa", sum := "5a580db9c2186743d8e65ae0af1300f8ef703116fb10537b2d5756741820d58a", func := "agraffe/agraffelaw03.PlateBars", spec := "plateBars", unfollowed := true, recurses := true, apart := false, narrowed := true }
def PlateBarsUptoSaid : Prop := plateBarsUptoRow.holds Try.pinned (OpenSpec.upto plateBarsSpec)

/-- 'agraffelaw03.PlateLevers', WHERE WHAT IT READS IS OF BULK AT MOST 1048576: true; the input reads as it did. -/
def plateLeversUptoRow : OpenClaim := { program := "ytdhbjklbgdnfmaa", sum := "5a580db9c2186743d8e65ae0af1300f8ef703116fb10537b2d5756741820d58a", func := "agraffe/agraffelaw03.PlateLevers", spec := "plateLevers", unfollowed := true, recurses := true, apart := false, narrowed := true }
def PlateLeversUptoSaid : Prop := plateLeversUptoRow.holds Try.pinned (OpenSpec.upto plateLeversSpec)

/-- 'agraffelaw03.PlateGirders', WHERE WHAT IT READS IS OF BULK AT MOST 1048576: true; the input reads as it did. -/
def plateGirdersUptoRow : OpenClaim := { program := "ytdhbjklbgdnfmaa", sum := "5a580db9c2186743d8e65ae0af1300f8ef703116fb10537b2d5756741820d58a", func := "agraffe/agraffelaw03.PlateGirders", spec := "plateGirders", unfollowed := true, recurses := true, apart := false, narrowed := true }
def PlateGirdersUptoSaid : Prop := plateGirdersUptoRow.holds Try.pinned (OpenSpec.upto plateGirdersSpec)

/-- 'agraffelaw03.PlateBends', WHERE WHAT IT READS IS OF BULK AT MOST 1048576: true; the input reads as it did. -/
def plateBendsUptoRow : OpenClaim := { program := "ytdhbjklbgdnfmaa", sum := "5a580db9c2186743d8e65ae0af1300f8ef703116fb10537b2d5756741820d58a", func := "agraffe/agraffelaw03.PlateBends", spec := "plateBends", unfollowed := true, recurses := true, apart := false, narrowed := true }
def PlateBendsUptoSaid : Prop := plateBendsUptoRow.holds Try.pinned (OpenSpec.upto plateBendsSpec)

/-- 'agraffelaw03.PlateBearings', WHERE WHAT IT READS IS OF BULK AT MOST 1048576: true; the input reads as it did. -/
def plateBearingsUptoRow : OpenClaim := { program := "ytdhbjklbgdnfmaa", sum := "5a580db9c2186743d8e65ae0af1300f8ef703116fb10537b2d5756741820d58a", func := "agraffe/agraffelaw03.PlateBearings", spec := "plateBearings", unfollowed := true, recurses := true, apart := false, narrowed := true }
def PlateBearingsUptoSaid : Prop := plateBearingsUptoRow.holds Try.pinned (OpenSpec.upto plateBearingsSpec)

/-- 'agraffelaw03.PlateMargins', WHERE WHAT IT READS IS OF BULK AT MOST 1048576: true; the input reads as it did. -/
def plateMarginsUptoRow : OpenClaim := { program := "ytdhbjklbgdnfmaa", sum := "5a580db9c2186743d8e65ae0af1300f8ef703116fb10537b2d5756741820d58a", func := "agraffe/agraffelaw03.PlateMargins", spec := "plateMargins", unfollowed := true, recurses := true, apart := false, narrowed := true }
def PlateMarginsUptoSaid : Prop := plateMarginsUptoRow.holds Try.pinned (OpenSpec.upto plateMarginsSpec)

end Rows
end Go.Proofs.Ytdhbjklbgdnfmaa
