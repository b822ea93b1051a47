/-
  No cell of these rows narrows 'for every input' (looked for: loops, veiled, ifaces, maps, wideKeys, modest, calm, conditions, laid).
  DERIVED. THE GIVEN ROWS OF THIS SEAT. 8 by the template 'for every input the law returns true; each argument reads behind the call as it read before'; 0 by the template 'total and deterministic' (their statements: YtgmiimpimoipcaaTotals.lean).
  GIVEN WITH THE SEED: the statements are not yours to turn. If you find one false, say at which input.
  Laid BY PROGRAM, IN A SANDBOX (cutbox-rows.mjs): the forced cells as the released guide's own fill.sh prints them over the translation bd6aa26c508b0917… (all of the seat's roots in one cut). By AI agents, Wed Nov 11 2026. No macro, syntax, notation, axiom, sorry.
-/
import Derived.Test.YtgmiimpimoipcaaChecked
import GoSem.Claim
import GoSem.ClaimJoined
import GoSem.ClaimMapViews
import Derived.JoinedTies
import Derived.KernelRfl
namespace Go.Proofs.Ytgmiimpimoipcaa
/- THE CELL 'sum', in the pinned program and in every row, IS THE sha256 OF THE DUMP (.gsa) THAT YtgmiimpimoipcaaProg.lean LOADS. Nothing in Lean hashes anything: it is a label: what it is worth is what the hold of that sum in a sandbox is worth. -/
noncomputable def Try.pinned : Pinned := { name := "ytgmiimpimoipcaa", sum := "bd6aa26c508b0917db0c33899ab66a6e904be71a0d0d1a1accd1bf1b9fdab75a", checked := Try.checked }
namespace Rows
def none {H : Type} : Left H := { results := [], args := [] }

/-- 'agraffelaw03.PlatePulls': WHATEVER THE INPUT: true; the input reads as it did. -/
def platePullsSpec : ChangeSpec := { name := "platePulls", fn := fun _ => fun
  | [d1, d2] => { results := [.lit (.bool true)], args := [d1, d2] }
  | _ => none }
def platePullsRow : OpenClaim := { program := "ytgmiimpimoipcaa", sum := "bd6aa26c508b0917db0c33899ab66a6e904be71a0d0d1a1accd1bf1b9fdab75a", func := "agraffe/agraffelaw03.PlatePulls", spec := "platePulls", unfollowed := true, recurses := true, apart := false }
def PlatePullsSaid : Prop := platePullsRow.holds Try.pinned (OpenSpec.ofChange platePullsSpec)

/-- ITS FALSE NEIGHBOUR: 'it returns false'. Refute it at one input. -/
def platePullsWrong : ChangeSpec := { name := "platePulls", fn := fun _ => fun
  | [d1, d2] => { results := [.lit (.bool false)], args := [d1, d2] }
  | _ => none }
def PlatePullsWrongFalsely : Prop := platePullsRow.holds Try.pinned (OpenSpec.ofChange platePullsWrong)

/-- 'agraffelaw03.PlateForces': WHATEVER THE INPUT: true; the input reads as it did. -/
def plateForcesSpec : ChangeSpec := { name := "plateForces", fn := fun _ => fun
  | [d1, d2] => { results := [.lit (.bool true)], args := [d1, d2] }
  | _ => none }
def plateForcesRow : OpenClaim := { program := "ytgmiimpimoipcaa", sum := "bd6aa26c508b0917db0c33899ab66a6e904be71a0d0d1a1accd1bf1b9fdab75a", func := "agraffe/agraffelaw03.PlateForces", spec := "plateForces", unfollowed := true, recurses := true, apart := false }
def PlateForcesSaid : Prop := plateForcesRow.holds Try.pinned (OpenSpec.ofChange plateForcesSpec)

/-- ITS FALSE NEIGHBOUR: 'it returns false'. Refute it at one input. -/
def plateForcesWrong : ChangeSpec := { name := "plateForces", fn := fun _ => fun
  | [d1, d2] => { results := [.lit (.bool false)], args := [d1, d2] }
  | _ => none }
def PlateForcesWrongFalsely : Prop := plateForcesRow.holds Try.pinned (OpenSpec.ofChange plateForcesWrong)

/-- 'agraffelaw03.PlateBalances': WHATEVER THE INPUT: true; the input reads as it did. -/
def plateBalancesSpec : ChangeSpec := { name := "plateBalances", fn := fun _ => fun
  | [d1, d2] => { results := [.lit (.bool true)], args := [d1, d2] }
  | _ => none }
def plateBalancesRow : OpenClaim := { program := "ytgmiimpimoipcaa", sum := "bd6aa26c508b0917db0c33899ab66a6e904be71a0d0d1a1accd1bf1b9fdab75a", func := "agraffe/agraffelaw03.PlateBalances", spec := "plateBalances", unfollowed := true, recurses := true, apart := false }
def PlateBalancesSaid : Prop := plateBalancesRow.holds Try.pinned (OpenSpec.ofChange plateBalancesSpec)

/-- ITS FALSE NEIGHBOUR: 'it returns false'. Refute it at one input. -/
def plateBalancesWrong : ChangeSpec := { name := "plateBalances", fn := fun _ => fun
  | [d1, d2] => { results := [.lit (.bool false)], args := [d1, d2] }
  | _ => none }
def PlateBalancesWrongFalsely : Prop := plateBalancesRow.holds Try.pinned (OpenSpec.ofChange plateBalancesWrong)

/-- 'agraffelaw03.PlateMoves': WHATEVER THE INPUT: true; the input reads as it did. -/
def plateMovesSpec : ChangeSpec := { name := "plateMoves", fn := fun _ => fun
  | [d1, d2] => { results := [.lit (.bool true)], args := [d1, d2] }
  | _ => none }
def plateMovesRow : OpenClaim := { program := "ytgmiimpimoipcaa", sum := "bd6aa26c508b0917db0c33899ab66a6e904be71a0d0d1a1accd1bf1b9fdab75a", func := "agraffe/agraffelaw03.PlateMoves", spec := "plateMoves", unfollowed := true, recurses := true, apart := false }
def PlateMovesSaid : Prop := plateMovesRow.holds Try.pinned (OpenSpec.ofChange plateMovesSpec)

/-- ITS FALSE NEIGHBOUR: 'it returns false'. Refute it at one input. -/
def plateMovesWrong : ChangeSpec := { name := "plateMoves", fn := fun _ => fun
  | [d1, d2] => { results := [.lit (.bool false)], args := [d1, d2] }
  | _ => none }
def PlateMovesWrongFalsely : Prop := plateMovesRow.holds Try.pinned (OpenSpec.ofChange plateMovesWrong)

/-- 'agraffelaw03.PlateShifts': WHATEVER THE INPUT: true; the input reads as it did. -/
def plateShiftsSpec : ChangeSpec := { name := "plateShifts", fn := fun _ => fun
  | [d1, d2] => { results := [.lit (.bool true)], args := [d1, d2] }
  | _ => none }
def plateShiftsRow : OpenClaim := { program := "ytgmiimpimoipcaa", sum := "bd6aa26c508b0917db0c33899ab66a6e904be71a0d0d1a1accd1bf1b9fdab75a", func := "agraffe/agraffelaw03.PlateShifts", spec := "plateShifts", unfollowed := true, recurses := true, apart := false }
def PlateShiftsSaid : Prop := plateShiftsRow.holds Try.pinned (OpenSpec.ofChange plateShiftsSpec)

/-- ITS FALSE NEIGHBOUR: 'it returns false'. Refute it at one input. -/
def plateShiftsWrong : ChangeSpec := { name := "plateShifts", fn := fun _ => fun
  | [d1, d2] => { results := [.lit (.bool false)], args := [d1, d2] }
  | _ => none }
def PlateShiftsWrongFalsely : Prop := plateShiftsRow.holds Try.pinned (OpenSpec.ofChange plateShiftsWrong)

/-- 'agraffelaw03.PlateBearings': WHATEVER THE INPUT: true; the input reads as it did. -/
def plateBearingsSpec : ChangeSpec := { name := "plateBearings", fn := fun _ => fun
  | [d1, d2] => { results := [.lit (.bool true)], args := [d1, d2] }
  | _ => none }
def plateBearingsRow : OpenClaim := { program := "ytgmiimpimoipcaa", sum := "bd6aa26c508b0917db0c33899ab66a6e904be71a0d0d1a1accd1bf1b9fdab75a", func := "agraffe/agraffelaw03.PlateBearings", spec := "plateBearings", unfollowed := true, recurses := true, apart := false }
def PlateBearingsSaid : Prop := plateBearingsRow.holds Try.pinned (OpenSpec.ofChange plateBearingsSpec)

/-- ITS FALSE NEIGHBOUR: 'it returns false'. Refute it at one input. -/
def plateBearingsWrong : ChangeSpec := { name := "plateBearings", fn := fun _ => fun
  | [d1, d2] => { results := [.lit (.bool false)], args := [d1, d2] }
  | _ => none }
def PlateBearingsWrongFalsely : Prop := plateBearingsRow.holds Try.pinned (OpenSpec.ofChange plateBearingsWrong)

/-- 'agraffelaw03.PlateHeights': WHATEVER THE INPUT: true; the input reads as it did. -/
def plateHeightsSpec : ChangeSpec := { name := "plateHeights", fn := fun _ => fun
  | [d1, d2, d3] => { results := [.lit (.bool true)], args := [d1, d2, d3] }
  | _ => none }
def plateHeightsRow : OpenClaim := { program := "ytgmiimpimoipcaa", sum := "bd6aa26c508b0917db0c33899ab66a6e904be71a0d0d1a1accd1bf1b9fdab75a", func := "agraffe/agraffelaw03.PlateHeights", spec := "plateHeights", unfollowed := true, recurses := true, apart := false }
def PlateHeightsSaid : Prop := plateHeightsRow.holds Try.pinned (OpenSpec.ofChange plateHeightsSpec)

/-- ITS FALSE NEIGHBOUR: 'it returns false'. Refute it at one input. -/
def plateHeightsWrong : ChangeSpec := { name := "plateHeights", fn := fun _ => fun
  | [d1, d2, d3] => { results := [.lit (.bool false)], args := [d1, d2, d3] }
  | _ => none }
def PlateHeightsWrongFalsely : Prop := plateHeightsRow.holds Try.pinned (OpenSpec.ofChange plateHeightsWrong)

/-- 'agraffelaw03.PlateMargins': WHATEVER THE INPUT: true; the input reads as it did. -/
def plateMarginsSpec : ChangeSpec := { name := "plateMargins", fn := fun _ => fun
  | [d1, d2] => { results := [.lit (.bool true)], args := [d1, d2] }
  | _ => none }
def plateMarginsRow : OpenClaim := { program := "ytgmiimpimoipcaa", sum := "bd6aa26c508b0917db0c33899ab66a6e904be71a0d0d1a1accd1bf1b9fdab75a", func := "agraffe/agraffelaw03.PlateMargins", spec := "plateMargins", unfollowed := true, recurses := true, apart := false }
def PlateMarginsSaid : Prop := plateMarginsRow.holds Try.pinned (OpenSpec.ofChange plateMarginsSpec)

/-- ITS FALSE NEIGHBOUR: 'it returns false'. Refute it at one input. -/
def plateMarginsWrong : ChangeSpec := { name := "plateMargins", fn := fun _ => fun
  | [d1, d2] => { results := [.lit (.bool false)], args := [d1, d2] }
  | _ => none }
def PlateMarginsWrongFalsely : Prop := plateMarginsRow.holds Try.pinned (OpenSpec.ofChange plateMarginsWrong)

/- THE SECOND FORM. 'bulk': how many values and letters a reading holds, each counted each time it is reached (what is shared counts as often as it is met; a slice's spare places count too). A statement '..UptoSaid' is the law's where the arguments, and the package variables that the reading takes, are together of bulk at most 1048576: NARROWER than '..Said'. Prove '..Said' where nothing that the law and all that it calls make is longer than what came in: it says more and counts as full. Else prove '..UptoSaid'. A law counts once. -/
mutual
def uptoBulk {H : Type} : DataW H → Nat
  | .lit (.string bytes) => bytes.length + 1
  | .lit _ => 1
  | .nil => 1
  | .ptr d => uptoBulk d + 1
  | .slice elems spare => uptoBulkAll elems + uptoBulkAll spare + 1
  | .agg parts => uptoBulkAll parts + 1
  | .iface _ d => uptoBulk d + 1
  | .map entries => uptoBulkEntries entries + 1
  | .held _ => 1
def uptoBulkAll {H : Type} : List (DataW H) → Nat
  | [] => 0
  | d :: r => uptoBulk d + uptoBulkAll r
def uptoBulkEntries {H : Type} : List (Lit × DataW H) → Nat
  | [] => 0
  | x :: r => uptoBulkEntry x + uptoBulkEntries r
def uptoBulkEntry {H : Type} : Lit × DataW H → Nat
  | (.string bytes, d) => bytes.length + uptoBulk d + 1
  | (_, d) => uptoBulk d + 1
 end
def uptoSmall : (H : Type) → List (DataW H) → Bool := fun _ ds => decide (uptoBulkAll ds ≤ 1048576)
def OpenSpec.upto (s : _root_.Go.ChangeSpec) : _root_.Go.OpenSpec := { _root_.Go.OpenSpec.ofChange s with cond := some uptoSmall }

/-- 'agraffelaw03.PlatePulls', WHERE WHAT IT READS IS OF BULK AT MOST 1048576: true; the input reads as it did. -/
def platePullsUptoRow : OpenClaim := { program := "ytgmiimpimoipcaa", sum := "bd6aa26c508b0917db0c33899ab66a6e904be71a0d0d1a1accd1bf1b9fdab75a", func := "agraffe/agraffelaw03.PlatePulls", spec := "platePulls", unfollowed := true, recurses := true, apart := false, narrowed := true }
def PlatePullsUptoSaid : Prop := platePullsUptoRow.holds Try.pinned (OpenSpec.upto platePullsSpec)

/-- 'agraffelaw03.PlateForces', WHERE WHAT IT READS IS OF BULK AT MOST 1048576: true; the input reads as it did. -/
def plateForcesUptoRow : OpenClaim := { program := "ytgmiimpimoipcaa", sum := "bd6aa26c508b0917db0c33899ab66a6e904be71a0d0d1a1accd1bf1b9fdab75a", func := "agraffe/agraffelaw03.PlateForces", spec := "plateForces", unfollowed := true, recurses := true, apart := false, narrowed := true }
def PlateForcesUptoSaid : Prop := plateForcesUptoRow.holds Try.pinned (OpenSpec.upto plateForcesSpec)

/-- 'agraffelaw03.PlateBalances', WHERE WHAT IT READS IS OF BULK AT MOST 1048576: true; the input reads as it did. -/
def plateBalancesUptoRow : OpenClaim := { program := "ytgmiimpimoipcaa", sum := "bd6aa26c508b0917db0c33899ab66a6e904be71a0d0d1a1accd1bf1b9fdab75a", func := "agraffe/agraffelaw03.PlateBalances", spec := "plateBalances", unfollowed := true, recurses := true, apart := false, narrowed := true }
def PlateBalancesUptoSaid : Prop := plateBalancesUptoRow.holds Try.pinned (OpenSpec.upto plateBalancesSpec)

/-- 'agraffelaw03.PlateMoves', WHERE WHAT IT READS IS OF BULK AT MOST 1048576: true; the input reads as it did. -/
def plateMovesUptoRow : OpenClaim := { program := "ytgmiimpimoipcaa", sum := "bd6aa26c508b0917db0c33899ab66a6e904be71a0d0d1a1accd1bf1b9fdab75a", func := "agraffe/agraffelaw03.PlateMoves", spec := "plateMoves", unfollowed := true, recurses := true, apart := false, narrowed := true }
def PlateMovesUptoSaid : Prop := plateMovesUptoRow.holds Try.pinned (OpenSpec.upto plateMovesSpec)

/-- 'agraffelaw03.PlateShifts', WHERE WHAT IT READS IS OF BULK AT MOST 1048576: true; the input reads as it did. -/
def plateShiftsUptoRow : OpenClaim := { program := "ytgmiimpimoipcaa", sum := "bd6aa26c508b0917db0c33899ab66a6e904be71a0d0d1a1accd1bf1b9fdab75a", func := "agraffe/agraffelaw03.PlateShifts", spec := "plateShifts", unfollowed := true, recurses := true, apart := false, narrowed := true }
def PlateShiftsUptoSaid : Prop := plateShiftsUptoRow.holds Try.pinned (OpenSpec.upto plateShiftsSpec)

/-- 'agraffelaw03.PlateBearings', WHERE WHAT IT READS IS OF BULK AT MOST 1048576: true; the input reads as it did. -/
def plateBearingsUptoRow : OpenClaim := { program := "ytgmiimpimoipcaa", sum := "bd6aa26c508b0917db0c33899ab66a6e904be71a0d0d1a1accd1bf1b9fdab75a", func := "agraffe/agraffelaw03.PlateBearings", spec := "plateBearings", unfollowed := true, recurses := true, apart := false, narrowed := true }
def PlateBearingsUptoSaid : Prop := plateBearingsUptoRow.holds Try.pinned (OpenSpec.upto plateBearingsSpec)

/-- 'agraffelaw03.PlateHeights', WHERE WHAT IT READS IS OF BULK AT MOST 1048576: true; the input reads as it did. -/
def plateHeightsUptoRow : OpenClaim := { program := "ytgmiimpimoipcaa", sum := "bd6aa26c508b0917db0c33899ab66a6e904be71a0d0d1a1accd1bf1b9fdab75a", func := "agraffe/agraffelaw03.PlateHeights", spec := "plateHeights", unfollowed := true, recurses := true, apart := false, narrowed := true }
def PlateHeightsUptoSaid : Prop := plateHeightsUptoRow.holds Try.pinned (OpenSpec.upto plateHeightsSpec)

/-- 'agraffelaw03.PlateMargins', WHERE WHAT IT READS IS OF BULK AT MOST 1048576: true; the input reads as it did. -/
def plateMarginsUptoRow : OpenClaim := { program := "ytgmiimpimoipcaa", sum := "bd6aa26c508b0917db0c33899ab66a6e904be71a0d0d1a1accd1bf1b9fdab75a", func := "agraffe/agraffelaw03.PlateMargins", spec := "plateMargins", unfollowed := true, recurses := true, apart := false, narrowed := true }
def PlateMarginsUptoSaid : Prop := plateMarginsUptoRow.holds Try.pinned (OpenSpec.upto plateMarginsSpec)

end Rows
end Go.Proofs.Ytgmiimpimoipcaa
