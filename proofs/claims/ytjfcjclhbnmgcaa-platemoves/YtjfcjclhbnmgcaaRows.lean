/-
  No cell of these rows narrows 'for every input' (looked for: loops, veiled, ifaces, maps, wideKeys, modest, calm, conditions, laid).
  DERIVED. THE GIVEN ROWS OF THIS SEAT. 12 by the template 'for every input the law returns true; each argument reads behind the call as it read before'; 0 by the template 'total and deterministic' (their statements: YtjfcjclhbnmgcaaTotals.lean).
  GIVEN WITH THE SEED: the statements are not yours to turn. If you find one false, say at which input.
  Laid BY PROGRAM, IN A SANDBOX (cutbox-rows.mjs): the forced cells as the released guide's own fill.sh prints them over the translation 587ca5ece4b21bf5… (all of the seat's roots in one cut). By AI agents, Wed Nov 11 2026. No macro, syntax, notation, axiom, sorry.
-/
import Derived.Test.YtjfcjclhbnmgcaaChecked
import GoSem.Claim
import GoSem.ClaimJoined
import GoSem.ClaimMapViews
import Derived.JoinedTies
import Derived.KernelRfl
namespace Go.Proofs.Ytjfcjclhbnmgcaa
/- THE CELL 'sum', in the pinned program and in every row, IS THE sha256 OF THE DUMP (.gsa) THAT YtjfcjclhbnmgcaaProg.lean LOADS. Nothing in Lean hashes anything: it is a label: what it is worth is what the hold of that sum in a sandbox is worth. -/
noncomputable def Try.pinned : Pinned := { name := "ytjfcjclhbnmgcaa", sum := "587ca5ece4b21bf53b064925ed22b2d4914e0af4d417d3f90d7748d68d619a85", checked := Try.checked }
namespace Rows
def none {H : Type} : Left H := { results := [], args := [] }

/-- 'agraffelaw03.PlateForces': WHATEVER THE INPUT: true; the input reads as it did. -/
def plateForcesSpec : ChangeSpec := { name := "plateForces", fn := fun _ => fun
  | [d1, d2] => { results := [.lit (.bool true)], args := [d1, d2] }
  | _ => none }
def plateForcesRow : OpenClaim := { program := "ytjfcjclhbnmgcaa", sum := "587ca5ece4b21bf53b064925ed22b2d4914e0af4d417d3f90d7748d68d619a85", func := "agraffe/agraffelaw03.PlateForces", spec := "plateForces", unfollowed := true, recurses := true, apart := false }
def PlateForcesSaid : Prop := plateForcesRow.holds Try.pinned (OpenSpec.ofChange plateForcesSpec)

/-- ITS FALSE NEIGHBOUR: 'it returns false'. Refute it at one input. -/
def plateForcesWrong : ChangeSpec := { name := "plateForces", fn := fun _ => fun
  | [d1, d2] => { results := [.lit (.bool false)], args := [d1, d2] }
  | _ => none }
def PlateForcesWrongFalsely : Prop := plateForcesRow.holds Try.pinned (OpenSpec.ofChange plateForcesWrong)

/-- 'agraffelaw03.PlateBalances': WHATEVER THE INPUT: true; the input reads as it did. -/
def plateBalancesSpec : ChangeSpec := { name := "plateBalances", fn := fun _ => fun
  | [d1, d2] => { results := [.lit (.bool true)], args := [d1, d2] }
  | _ => none }
def plateBalancesRow : OpenClaim := { program := "ytjfcjclhbnmgcaa", sum := "587ca5ece4b21bf53b064925ed22b2d4914e0af4d417d3f90d7748d68d619a85", func := "agraffe/agraffelaw03.PlateBalances", spec := "plateBalances", unfollowed := true, recurses := true, apart := false }
def PlateBalancesSaid : Prop := plateBalancesRow.holds Try.pinned (OpenSpec.ofChange plateBalancesSpec)

/-- ITS FALSE NEIGHBOUR: 'it returns false'. Refute it at one input. -/
def plateBalancesWrong : ChangeSpec := { name := "plateBalances", fn := fun _ => fun
  | [d1, d2] => { results := [.lit (.bool false)], args := [d1, d2] }
  | _ => none }
def PlateBalancesWrongFalsely : Prop := plateBalancesRow.holds Try.pinned (OpenSpec.ofChange plateBalancesWrong)

/-- 'agraffelaw03.PlateMoves': WHATEVER THE INPUT: true; the input reads as it did. -/
def plateMovesSpec : ChangeSpec := { name := "plateMoves", fn := fun _ => fun
  | [d1, d2] => { results := [.lit (.bool true)], args := [d1, d2] }
  | _ => none }
def plateMovesRow : OpenClaim := { program := "ytjfcjclhbnmgcaa", sum := "587ca5ece4b21bf53b064925ed22b2d4914e0af4d417d3f90d7748d68d619a85", func := "agraffe/agraffelaw03.PlateMoves", spec := "plateMoves", unfollowed := true, recurses := true, apart := false }
def PlateMovesSaid : Prop := plateMovesRow.holds Try.pinned (OpenSpec.ofChange plateMovesSpec)

/-- ITS FALSE NEIGHBOUR: 'it returns false'. Refute it at one input. -/
def plateMovesWrong : ChangeSpec := { name := "plateMoves", fn := fun _ => fun
  | [d1, d2] => { results := [.lit (.bool false)], args := [d1, d2] }
  | _ => none }
def PlateMovesWrongFalsely : Prop := plateMovesRow.holds Try.pinned (OpenSpec.ofChange plateMovesWrong)

/-- 'agraffelaw03.PlateShifts': WHATEVER THE INPUT: true; the input reads as it did. -/
def plateShiftsSpec : ChangeSpec := { name := "plateShifts", fn := fun _ => fun
  | [d1, d2] => { results := [.lit (.bool true)], args := [d1, d2] }
  | _ => none }
def plateShiftsRow : OpenClaim := { program := "ytjfcjclhbnmgcaa", sum := "587ca5ece4b21bf53b064925ed22b2d4914e0af4d417d3f90d7748d68d619a85", func := "agraffe/agraffelaw03.PlateShifts", spec := "plateShifts", unfollowed := true, recurses := true, apart := false }
def PlateShiftsSaid : Prop := plateShiftsRow.holds Try.pinned (OpenSpec.ofChange plateShiftsSpec)

/-- ITS FALSE NEIGHBOUR: 'it returns false'. Refute it at one input. -/
def plateShiftsWrong : ChangeSpec := { name := "plateShifts", fn := fun _ => fun
  | [d1, d2] => { results := [.lit (.bool false)], args := [d1, d2] }
  | _ => none }
def PlateShiftsWrongFalsely : Prop := plateShiftsRow.holds Try.pinned (OpenSpec.ofChange plateShiftsWrong)

/-- 'agraffelaw03.PlateBars': WHATEVER THE INPUT: true; the input reads as it did. -/
def plateBarsSpec : ChangeSpec := { name := "plateBars", fn := fun _ => fun
  | [d1, d2] => { results := [.lit (.bool true)], args := [d1, d2] }
  | _ => none }
def plateBarsRow : OpenClaim := { program := "ytjfcjclhbnmgcaa", sum := "587ca5ece4b21bf53b064925ed22b2d4914e0af4d417d3f90d7748d68d619a85", func := "agraffe/agraffelaw03.PlateBars", spec := "plateBars", unfollowed := true, recurses := true, apart := false }
def PlateBarsSaid : Prop := plateBarsRow.holds Try.pinned (OpenSpec.ofChange plateBarsSpec)

/-- ITS FALSE NEIGHBOUR: 'it returns false'. Refute it at one input. -/
def plateBarsWrong : ChangeSpec := { name := "plateBars", fn := fun _ => fun
  | [d1, d2] => { results := [.lit (.bool false)], args := [d1, d2] }
  | _ => none }
def PlateBarsWrongFalsely : Prop := plateBarsRow.holds Try.pinned (OpenSpec.ofChange plateBarsWrong)

/-- 'agraffelaw03.PlateLevers': WHATEVER THE INPUT: true; the input reads as it did. -/
def plateLeversSpec : ChangeSpec := { name := "plateLevers", fn := fun _ => fun
  | [d1, d2] => { results := [.lit (.bool true)], args := [d1, d2] }
  | _ => none }
def plateLeversRow : OpenClaim := { program := "ytjfcjclhbnmgcaa", sum := "587ca5ece4b21bf53b064925ed22b2d4914e0af4d417d3f90d7748d68d619a85", func := "agraffe/agraffelaw03.PlateLevers", spec := "plateLevers", unfollowed := true, recurses := true, apart := false }
def PlateLeversSaid : Prop := plateLeversRow.holds Try.pinned (OpenSpec.ofChange plateLeversSpec)

/-- ITS FALSE NEIGHBOUR: 'it returns false'. Refute it at one input. -/
def plateLeversWrong : ChangeSpec := { name := "plateLevers", fn := fun _ => fun
  | [d1, d2] => { results := [.lit (.bool false)], args := [d1, d2] }
  | _ => none }
def PlateLeversWrongFalsely : Prop := plateLeversRow.holds Try.pinned (OpenSpec.ofChange plateLeversWrong)

/-- 'agraffelaw03.PlateGirders': WHATEVER THE INPUT: true; the input reads as it did. -/
def plateGirdersSpec : ChangeSpec := { name := "plateGirders", fn := fun _ => fun
  | [d1, d2] => { results := [.lit (.bool true)], args := [d1, d2] }
  | _ => none }
def plateGirdersRow : OpenClaim := { program := "ytjfcjclhbnmgcaa", sum := "587ca5ece4b21bf53b064925ed22b2d4914e0af4d417d3f90d7748d68d619a85", func := "agraffe/agraffelaw03.PlateGirders", spec := "plateGirders", unfollowed := true, recurses := true, apart := false }
def PlateGirdersSaid : Prop := plateGirdersRow.holds Try.pinned (OpenSpec.ofChange plateGirdersSpec)

/-- ITS FALSE NEIGHBOUR: 'it returns false'. Refute it at one input. -/
def plateGirdersWrong : ChangeSpec := { name := "plateGirders", fn := fun _ => fun
  | [d1, d2] => { results := [.lit (.bool false)], args := [d1, d2] }
  | _ => none }
def PlateGirdersWrongFalsely : Prop := plateGirdersRow.holds Try.pinned (OpenSpec.ofChange plateGirdersWrong)

/-- 'agraffelaw03.PlateBends': WHATEVER THE INPUT: true; the input reads as it did. -/
def plateBendsSpec : ChangeSpec := { name := "plateBends", fn := fun _ => fun
  | [d1, d2, d3] => { results := [.lit (.bool true)], args := [d1, d2, d3] }
  | _ => none }
def plateBendsRow : OpenClaim := { program := "ytjfcjclhbnmgcaa", sum := "587ca5ece4b21bf53b064925ed22b2d4914e0af4d417d3f90d7748d68d619a85", func := "agraffe/agraffelaw03.PlateBends", spec := "plateBends", unfollowed := true, recurses := true, apart := false }
def PlateBendsSaid : Prop := plateBendsRow.holds Try.pinned (OpenSpec.ofChange plateBendsSpec)

/-- ITS FALSE NEIGHBOUR: 'it returns false'. Refute it at one input. -/
def plateBendsWrong : ChangeSpec := { name := "plateBends", fn := fun _ => fun
  | [d1, d2, d3] => { results := [.lit (.bool false)], args := [d1, d2, d3] }
  | _ => none }
def PlateBendsWrongFalsely : Prop := plateBendsRow.holds Try.pinned (OpenSpec.ofChange plateBendsWrong)

/-- 'agraffelaw03.PlateWorst': WHATEVER THE INPUT: true; the input reads as it did. -/
def plateWorstSpec : ChangeSpec := { name := "plateWorst", fn := fun _ => fun
  | [d1, d2, d3] => { results := [.lit (.bool true)], args := [d1, d2, d3] }
  | _ => none }
def plateWorstRow : OpenClaim := { program := "ytjfcjclhbnmgcaa", sum := "587ca5ece4b21bf53b064925ed22b2d4914e0af4d417d3f90d7748d68d619a85", func := "agraffe/agraffelaw03.PlateWorst", spec := "plateWorst", unfollowed := true, recurses := true, apart := false }
def PlateWorstSaid : Prop := plateWorstRow.holds Try.pinned (OpenSpec.ofChange plateWorstSpec)

/-- ITS FALSE NEIGHBOUR: 'it returns false'. Refute it at one input. -/
def plateWorstWrong : ChangeSpec := { name := "plateWorst", fn := fun _ => fun
  | [d1, d2, d3] => { results := [.lit (.bool false)], args := [d1, d2, d3] }
  | _ => none }
def PlateWorstWrongFalsely : Prop := plateWorstRow.holds Try.pinned (OpenSpec.ofChange plateWorstWrong)

/-- 'agraffelaw03.PlateBridges': WHATEVER THE INPUT: true; the input reads as it did. -/
def plateBridgesSpec : ChangeSpec := { name := "plateBridges", fn := fun _ => fun
  | [d1, d2] => { results := [.lit (.bool true)], args := [d1, d2] }
  | _ => none }
def plateBridgesRow : OpenClaim := { program := "ytjfcjclhbnmgcaa", sum := "587ca5ece4b21bf53b064925ed22b2d4914e0af4d417d3f90d7748d68d619a85", func := "agraffe/agraffelaw03.PlateBridges", spec := "plateBridges", unfollowed := true, recurses := true, apart := false }
def PlateBridgesSaid : Prop := plateBridgesRow.holds Try.pinned (OpenSpec.ofChange plateBridgesSpec)

/-- ITS FALSE NEIGHBOUR: 'it returns false'. Refute it at one input. -/
def plateBridgesWrong : ChangeSpec := { name := "plateBridges", fn := fun _ => fun
  | [d1, d2] => { results := [.lit (.bool false)], args := [d1, d2] }
  | _ => none }
def PlateBridgesWrongFalsely : Prop := plateBridgesRow.holds Try.pinned (OpenSpec.ofChange plateBridgesWrong)

/-- 'agraffelaw03.PlateHeights': WHATEVER THE INPUT: true; the input reads as it did. -/
def plateHeightsSpec : ChangeSpec := { name := "plateHeights", fn := fun _ => fun
  | [d1, d2, d3] => { results := [.lit (.bool true)], args := [d1, d2, d3] }
  | _ => none }
def plateHeightsRow : OpenClaim := { program := "ytjfcjclhbnmgcaa", sum := "587ca5ece4b21bf53b064925ed22b2d4914e0af4d417d3f90d7748d68d619a85", func := "agraffe/agraffelaw03.PlateHeights", spec := "plateHeights", unfollowed := true, recurses := true, apart := false }
def PlateHeightsSaid : Prop := plateHeightsRow.holds Try.pinned (OpenSpec.ofChange plateHeightsSpec)

/-- ITS FALSE NEIGHBOUR: 'it returns false'. Refute it at one input. -/
def plateHeightsWrong : ChangeSpec := { name := "plateHeights", fn := fun _ => fun
  | [d1, d2, d3] => { results := [.lit (.bool false)], args := [d1, d2, d3] }
  | _ => none }
def PlateHeightsWrongFalsely : Prop := plateHeightsRow.holds Try.pinned (OpenSpec.ofChange plateHeightsWrong)

/-- 'agraffetop.TopRigid': WHATEVER THE INPUT: true; the input reads as it did. -/
def topRigidSpec : ChangeSpec := { name := "topRigid", fn := fun _ => fun
  | [d1, d2, d3] => { results := [.lit (.bool true)], args := [d1, d2, d3] }
  | _ => none }
def topRigidRow : OpenClaim := { program := "ytjfcjclhbnmgcaa", sum := "587ca5ece4b21bf53b064925ed22b2d4914e0af4d417d3f90d7748d68d619a85", func := "agraffe/agraffetop.TopRigid", spec := "topRigid", inPlace := ["math/bits.Add64"], unfollowed := true, recurses := true, apart := false }
def TopRigidSaid : Prop := topRigidRow.holds Try.pinned (OpenSpec.ofChange topRigidSpec)

/-- ITS FALSE NEIGHBOUR: 'it returns false'. Refute it at one input. -/
def topRigidWrong : ChangeSpec := { name := "topRigid", fn := fun _ => fun
  | [d1, d2, d3] => { results := [.lit (.bool false)], args := [d1, d2, d3] }
  | _ => none }
def TopRigidWrongFalsely : Prop := topRigidRow.holds Try.pinned (OpenSpec.ofChange topRigidWrong)

/- THE SECOND FORM. 'bulk': how many values and letters a reading holds, each counted each time it is reached (what is shared counts as often as it is met; a slice's spare places count too). A statement '..UptoSaid' is the law's where the arguments, and the package variables that the reading takes, are together of bulk at most 1048576: NARROWER than '..Said'. Prove '..Said' where nothing that the law and all that it calls make is longer than what came in: it says more and counts as full. Else prove '..UptoSaid'. A law counts once. -/
mutual
def uptoBulk {H : Type} : DataW H → Nat
  | .lit (.string bytes) => bytes.length + 1
  | .lit _ => 1
  | .nil => 1
  | .ptr d => uptoBulk d + 1
  | .slice elems spare => uptoBulkAll elems + uptoBulkAll spare + 1
  | .agg parts => uptoBulkAll parts + 1
  | .iface _ d => uptoBulk d + 1
  | .map entries => uptoBulkEntries entries + 1
  | .held _ => 1
def uptoBulkAll {H : Type} : List (DataW H) → Nat
  | [] => 0
  | d :: r => uptoBulk d + uptoBulkAll r
def uptoBulkEntries {H : Type} : List (Lit × DataW H) → Nat
  | [] => 0
  | x :: r => uptoBulkEntry x + uptoBulkEntries r
def uptoBulkEntry {H : Type} : Lit × DataW H → Nat
  | (.string bytes, d) => bytes.length + uptoBulk d + 1
  | (_, d) => uptoBulk d + 1
 end
def uptoSmall : (H : Type) → List (DataW H) → Bool := fun _ ds => decide (uptoBulkAll ds ≤ 1048576)
def OpenSpec.upto (s : _root_.Go.ChangeSpec) : _root_.Go.OpenSpec := { _root_.Go.OpenSpec.ofChange s with cond := some uptoSmall }

/-- 'agraffelaw03.PlateForces', WHERE WHAT IT READS IS OF BULK AT MOST 1048576: true; the input reads as it did. -/
def plateForcesUptoRow : OpenClaim := { program := "ytjfcjclhbnmgcaa", sum := "587ca5ece4b21bf53b064925ed22b2d4914e0af4d417d3f90d7748d68d619a85", func := "agraffe/agraffelaw03.PlateForces", spec := "plateForces", unfollowed := true, recurses := true, apart := false, narrowed := true }
def PlateForcesUptoSaid : Prop := plateForcesUptoRow.holds Try.pinned (OpenSpec.upto plateForcesSpec)

/-- 'agraffelaw03.PlateBalances', WHERE WHAT IT READS IS OF BULK AT MOST 1048576: true; the input reads as it did. -/
def plateBalancesUptoRow : OpenClaim := { program := "ytjfcjclhbnmgcaa", sum := "587ca5ece4b21bf53b064925ed22b2d4914e0af4d417d3f90d7748d68d619a85", func := "agraffe/agraffelaw03.PlateBalances", spec := "plateBalances", unfollowed := true, recurses := true, apart := false, narrowed := true }
def PlateBalancesUptoSaid : Prop := plateBalancesUptoRow.holds Try.pinned (OpenSpec.upto plateBalancesSpec)

/-- 'agraffelaw03.PlateMoves', WHERE WHAT IT READS IS OF BULK AT MOST 1048576: true; the input reads as it did. -/
def plateMovesUptoRow : OpenClaim := { program := "ytjfcjclhbnmgcaa", sum := "587ca5ece4b21bf53b064925ed22b2d4914e0af4d417d3f90d7748d68d619a85", func := "agraffe/agraffelaw03.PlateMoves", spec := "plateMoves", unfollowed := true, recurses := true, apart := false, narrowed := true }
def PlateMovesUptoSaid : Prop := plateMovesUptoRow.holds Try.pinned (OpenSpec.upto plateMovesSpec)

/-- 'agraffelaw03.PlateShifts', WHERE WHAT IT READS IS OF BULK AT MOST 1048576: true; the input reads as it did. -/
def plateShiftsUptoRow : OpenClaim := { program := "ytjfcjclhbnmgcaa", sum := "587ca5ece4b21bf53b064925ed22b2d4914e0af4d417d3f90d7748d68d619a85", func := "agraffe/agraffelaw03.PlateShifts", spec := "plateShifts", unfollowed := true, recurses := true, apart := false, narrowed := true }
def PlateShiftsUptoSaid : Prop := plateShiftsUptoRow.holds Try.pinned (OpenSpec.upto plateShiftsSpec)

/-- 'agraffelaw03.PlateBars', WHERE WHAT IT READS IS OF BULK AT MOST 1048576: true; the input reads as it did. -/
def plateBarsUptoRow : OpenClaim := { program := "ytjfcjclhbnmgcaa", sum := "587ca5ece4b21bf53b064925ed22b2d4914e0af4d417d3f90d7748d68d619a85", func := "agraffe/agraffelaw03.PlateBars", spec := "plateBars", unfollowed := true, recurses := true, apart := false, narrowed := true }
def PlateBarsUptoSaid : Prop := plateBarsUptoRow.holds Try.pinned (OpenSpec.upto plateBarsSpec)

/-- 'agraffelaw03.PlateLevers', WHERE WHAT IT READS IS OF BULK AT MOST 1048576: true; the input reads as it did. -/
def plateLeversUptoRow : OpenClaim := { program := "ytjfcjclhbnmgcaa", sum := "587ca5ece4b21bf53b064925ed22b2d4914e0af4d417d3f90d7748d68d619a85", func := "agraffe/agraffelaw03.PlateLevers", spec := "plateLevers", unfollowed := true, recurses := true, apart := false, narrowed := true }
def PlateLeversUptoSaid : Prop := plateLeversUptoRow.holds Try.pinned (OpenSpec.upto plateLeversSpec)

/-- 'agraffelaw03.PlateGirders', WHERE WHAT IT READS IS OF BULK AT MOST 1048576: true; the input reads as it did. -/
def plateGirdersUptoRow : OpenClaim := { program := "ytjfcjclhbnmgcaa", sum := "587ca5ece4b21bf53b064925ed22b2d4914e0af4d417d3f90d7748d68d619a85", func := "agraffe/agraffelaw03.PlateGirders", spec := "plateGirders", unfollowed := true, recurses := true, apart := false, narrowed := true }
def PlateGirdersUptoSaid : Prop := plateGirdersUptoRow.holds Try.pinned (OpenSpec.upto plateGirdersSpec)

/-- 'agraffelaw03.PlateBends', WHERE WHAT IT READS IS OF BULK AT MOST 1048576: true; the input reads as it did. -/
def plateBendsUptoRow : OpenClaim := { program := "ytjfcjclhbnmgcaa", sum := "587ca5ece4b21bf53b064925ed22b2d4914e0af4d417d3f90d7748d68d619a85", func := "agraffe/agraffelaw03.PlateBends", spec := "plateBends", unfollowed := true, recurses := true, apart := false, narrowed := true }
def PlateBendsUptoSaid : Prop := plateBendsUptoRow.holds Try.pinned (OpenSpec.upto plateBendsSpec)

/-- 'agraffelaw03.PlateWorst', WHERE WHAT IT READS IS OF BULK AT MOST 1048576: true; the input reads as it did. -/
def plateWorstUptoRow : OpenClaim := { program := "ytjfcjclhbnmgcaa", sum := "587ca5ece4b21bf53b064925ed22b2d4914e0af4d417d3f90d7748d68d619a85", func := "agraffe/agraffelaw03.PlateWorst", spec := "plateWorst", unfollowed := true, recurses := true, apart := false, narrowed := true }
def PlateWorstUptoSaid : Prop := plateWorstUptoRow.holds Try.pinned (OpenSpec.upto plateWorstSpec)

/-- 'agraffelaw03.PlateBridges', WHERE WHAT IT READS IS OF BULK AT MOST 1048576: true; the input reads as it did. -/
def plateBridgesUptoRow : OpenClaim := { program := "ytjfcjclhbnmgcaa", sum := "587ca5ece4b21bf53b064925ed22b2d4914e0af4d417d3f90d7748d68d619a85", func := "agraffe/agraffelaw03.PlateBridges", spec := "plateBridges", unfollowed := true, recurses := true, apart := false, narrowed := true }
def PlateBridgesUptoSaid : Prop := plateBridgesUptoRow.holds Try.pinned (OpenSpec.upto plateBridgesSpec)

/-- 'agraffelaw03.PlateHeights', WHERE WHAT IT READS IS OF BULK AT MOST 1048576: true; the input reads as it did. -/
def plateHeightsUptoRow : OpenClaim := { program := "ytjfcjclhbnmgcaa", sum := "587ca5ece4b21bf53b064925ed22b2d4914e0af4d417d3f90d7748d68d619a85", func := "agraffe/agraffelaw03.PlateHeights", spec := "plateHeights", unfollowed := true, recurses := true, apart := false, narrowed := true }
def PlateHeightsUptoSaid : Prop := plateHeightsUptoRow.holds Try.pinned (OpenSpec.upto plateHeightsSpec)

/-- 'agraffetop.TopRigid', WHERE WHAT IT READS IS OF BULK AT MOST 1048576: true; the input reads as it did. -/
def topRigidUptoRow : OpenClaim := { program := "ytjfcjclhbnmgcaa", sum := "587ca5ece4b21bf53b064925ed22b2d4914e0af4d417d3f90d7748d68d619a85", func := "agraffe/agraffetop.TopRigid", spec := "topRigid", inPlace := ["math/bits.Add64"], unfollowed := true, recurses := true, apart := false, narrowed := true }
def TopRigidUptoSaid : Prop := topRigidUptoRow.holds Try.pinned (OpenSpec.upto topRigidSpec)

end Rows
end Go.Proofs.Ytjfcjclhbnmgcaa
