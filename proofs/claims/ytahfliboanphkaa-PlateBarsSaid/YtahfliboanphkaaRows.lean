/-
  No cell of these rows narrows 'for every input' (looked for: loops, veiled, ifaces, maps, wideKeys, modest, calm, conditions, laid).
  DERIVED. THE GIVEN ROWS OF THIS SEAT. 5 by the template 'for every input the law returns true; each argument reads behind the call as it read before'; 0 by the template 'total and deterministic' (their statements: YtahfliboanphkaaTotals.lean).
  GIVEN WITH THE SEED: the statements are not yours to turn. If you find one false, say at which input.
  Laid BY PROGRAM, IN A SANDBOX (cutbox-rows.mjs): the forced cells as the released guide's own fill.sh prints them over the translation ebed0d104c6947ed… (all of the seat's roots in one cut). By AI agents, Wed Nov 11 2026. No macro, syntax, notation, axiom, sorry.
-/
import Derived.Test.YtahfliboanphkaaChecked
import GoSem.Claim
import GoSem.ClaimJoined
import GoSem.ClaimMapViews
import Derived.JoinedTies
import Derived.KernelRfl
namespace Go.Proofs.Ytahfliboanphkaa
/- THE CELL 'sum', in the pinned program and in every row, IS THE sha256 OF THE DUMP (.gsa) THAT YtahfliboanphkaaProg.lean LOADS. Nothing in Lean hashes anything: it is a label: what it is worth is what the hold of that sum in a sandbox is worth. -/
noncomputable def Try.pinned : Pinned := { name := "ytahfliboanphkaa", sum := "ebed0d104c6947ed0d70bed2125a7f6277de92cd6ed527f3a23a617f47945530", checked := Try.checked }
namespace Rows
def none {H : Type} : Left H := { results := [], args := [] }

/-- 'agraffelaw03.PlateBalances': WHATEVER THE INPUT: true; the input reads as it did. -/
def plateBalancesSpec : ChangeSpec := { name := "plateBalances", fn := fun _ => fun
  | [d1, d2] => { results := [.lit (.bool true)], args := [d1, d2] }
  | _ => none }
def plateBalancesRow : OpenClaim := { program := "ytahfliboanphkaa", sum := "ebed0d104c6947ed0d70bed2125a7f6277de92cd6ed527f3a23a617f47945530", func := "agraffe/agraffelaw03.PlateBalances", spec := "plateBalances", unfollowed := true, recurses := true, apart := false }
def PlateBalancesSaid : Prop := plateBalancesRow.holds Try.pinned (OpenSpec.ofChange plateBalancesSpec)

/-- ITS FALSE NEIGHBOUR: 'it returns false'. Refute it at one input. -/
def plateBalancesWrong : ChangeSpec := { name := "plateBalances", fn := fun _ => fun
  | [d1, d2] => { results := [.lit (.bool false)], args := [d1, d2] }
  | _ => none }
def PlateBalancesWrongFalsely : Prop := plateBalancesRow.holds Try.pinned (OpenSpec.ofChange plateBalancesWrong)

/-- 'agraffelaw03.PlateMoves': WHATEVER THE INPUT: true; the input reads as it did. -/
def plateMovesSpec : ChangeSpec := { name := "plateMoves", fn := fun _ => fun
  | [d1, d2] => { results := [.lit (.bool true)], args := [d1, d2] }
  | _ => none }
def plateMovesRow : OpenClaim := { program := "ytahfliboanphkaa", sum := "ebed0d104c6947ed0d70bed2125a7f6277de92cd6ed527f3a23a617f47945530", func := "agraffe/agraffelaw03.PlateMoves", spec := "plateMoves", unfollowed := true, recurses := true, apart := false }
def PlateMovesSaid : Prop := plateMovesRow.holds Try.pinned (OpenSpec.ofChange plateMovesSpec)

/-- ITS FALSE NEIGHBOUR: 'it returns false'. Refute it at one input. -/
def plateMovesWrong : ChangeSpec := { name := "plateMoves", fn := fun _ => fun
  | [d1, d2] => { results := [.lit (.bool false)], args := [d1, d2] }
  | _ => none }
def PlateMovesWrongFalsely : Prop := plateMovesRow.holds Try.pinned (OpenSpec.ofChange plateMovesWrong)

/-- 'agraffelaw03.PlateBars': WHATEVER THE INPUT: true; the input reads as it did. -/
def plateBarsSpec : ChangeSpec := { name := "plateBars", fn := fun _ => fun
  | [d1, d2] => { results := [.lit (.bool true)], args := [d1, d2] }
  | _ => none }
def plateBarsRow : OpenClaim := { program := "ytahfliboanphkaa", sum := "ebed0d104c6947ed0d70bed2125a7f6277de92cd6ed527f3a23a617f47945530", func := "agraffe/agraffelaw03.PlateBars", spec := "plateBars", unfollowed := true, recurses := true, apart := false }
def PlateBarsSaid : Prop := plateBarsRow.holds Try.pinned (OpenSpec.ofChange plateBarsSpec)

/-- ITS FALSE NEIGHBOUR: 'it returns false'. Refute it at one input. -/
def plateBarsWrong : ChangeSpec := { name := "plateBars", fn := fun _ => fun
  | [d1, d2] => { results := [.lit (.bool false)], args := [d1, d2] }
  | _ => none }
def PlateBarsWrongFalsely : Prop := plateBarsRow.holds Try.pinned (OpenSpec.ofChange plateBarsWrong)

/-- 'agraffelaw03.PlateLevers': WHATEVER THE INPUT: true; the input reads as it did. -/
def plateLeversSpec : ChangeSpec := { name := "plateLevers", fn := fun _ => fun
  | [d1, d2] => { results := [.lit (.bool true)], args := [d1, d2] }
  | _ => none }
def plateLeversRow : OpenClaim := { program := "ytahfliboanphkaa", sum := "ebed0d104c6947ed0d70bed2125a7f6277de92cd6ed527f3a23a617f47945530", func := "agraffe/agraffelaw03.PlateLevers", spec := "plateLevers", unfollowed := true, recurses := true, apart := false }
def PlateLeversSaid : Prop := plateLeversRow.holds Try.pinned (OpenSpec.ofChange plateLeversSpec)

/-- ITS FALSE NEIGHBOUR: 'it returns false'. Refute it at one input. -/
def plateLeversWrong : ChangeSpec := { name := "plateLevers", fn := fun _ => fun
  | [d1, d2] => { results := [.lit (.bool false)], args := [d1, d2] }
  | _ => none }
def PlateLeversWrongFalsely : Prop := plateLeversRow.holds Try.pinned (OpenSpec.ofChange plateLeversWrong)

/-- 'agraffelaw03.PlateWorst': WHATEVER THE INPUT: true; the input reads as it did. -/
def plateWorstSpec : ChangeSpec := { name := "plateWorst", fn := fun _ => fun
  | [d1, d2, d3] => { results := [.lit (.bool true)], args := [d1, d2, d3] }
  | _ => none }
def plateWorstRow : OpenClaim := { program := "ytahfliboanphkaa", sum := "ebed0d104c6947ed0d70bed2125a7f6277de92cd6ed527f3a23a617f47945530", func := "agraffe/agraffelaw03.PlateWorst", spec := "plateWorst", unfollowed := true, recurses := true, apart := false }
def PlateWorstSaid : Prop := plateWorstRow.holds Try.pinned (OpenSpec.ofChange plateWorstSpec)

/-- ITS FALSE NEIGHBOUR: 'it returns false'. Refute it at one input. -/
def plateWorstWrong : ChangeSpec := { name := "plateWorst", fn := fun _ => fun
  | [d1, d2, d3] => { results := [.lit (.bool false)], args := [d1, d2, d3] }
  | _ => none }
def PlateWorstWrongFalsely : Prop := plateWorstRow.holds Try.pinned (OpenSpec.ofChange plateWorstWrong)

/- THE SECOND FORM. 'bulk': how many values and letters a reading holds, each counted each time it is reached (what is shared counts as often as it is met; a slice's spare places count too). A statement '..UptoSaid' is the law's where the arguments, and the package variables that the reading takes, are together of bulk at most 1048576: NARROWER than '..Said'. Prove '..Said' where nothing that the law and all that it calls make is longer than what came in: it says more and counts as full. Else prove '..UptoSaid'. A law counts once. -/
mutual
def uptoBulk {H : Type} : DataW H → Nat
  | .lit (.string bytes) => bytes.length + 1
  | .lit _ => 1
  | .nil => 1
  | .ptr d => uptoBulk d + 1
  | .slice elems spare => uptoBulkAll elems + uptoBulkAll spare + 1
  | .agg parts => uptoBulkAll parts + 1
  | .iface _ d => uptoBulk d + 1
  | .map entries => uptoBulkEntries entries + 1
  | .held _ => 1
def uptoBulkAll {H : Type} : List (DataW H) → Nat
  | [] => 0
  | d :: r => uptoBulk d + uptoBulkAll r
def uptoBulkEntries {H : Type} : List (Lit × DataW H) → Nat
  | [] => 0
  | x :: r => uptoBulkEntry x + uptoBulkEntries r
def uptoBulkEntry {H : Type} : Lit × DataW H → Nat
  | (.string bytes, d) => bytes.length + uptoBulk d + 1
  | (_, d) => uptoBulk d + 1
 end
def uptoSmall : (H : Type) → List (DataW H) → Bool := fun _ ds => decide (uptoBulkAll ds ≤ 1048576)
def OpenSpec.upto (s : _root_.Go.ChangeSpec) : _root_.Go.OpenSpec := { _root_.Go.OpenSpec.ofChange s with cond := some uptoSmall }

/-- 'agraffelaw03.PlateBalances', WHERE WHAT IT READS IS OF BULK AT MOST 1048576: true; the input reads as it did. -/
def plateBalancesUptoRow : OpenClaim := { program := "ytahfliboanphkaa", sum := "ebed0d104c6947ed0d70bed2125a7f6277de92cd6ed527f3a23a617f47945530", func := "agraffe/agraffelaw03.PlateBalances", spec := "plateBalances", unfollowed := true, recurses := true, apart := false, narrowed := true }
def PlateBalancesUptoSaid : Prop := plateBalancesUptoRow.holds Try.pinned (OpenSpec.upto plateBalancesSpec)

/-- 'agraffelaw03.PlateMoves', WHERE WHAT IT READS IS OF BULK AT MOST 1048576: true; the input reads as it did. -/
def plateMovesUptoRow : OpenClaim := { program := "ytahfliboanphkaa", sum := "ebed0d104c6947ed0d70bed2125a7f6277de92cd6ed527f3a23a617f47945530", func := "agraffe/agraffelaw03.PlateMoves", spec := "plateMoves", unfollowed := true, recurses := true, apart := false, narrowed := true }
def PlateMovesUptoSaid : Prop := plateMovesUptoRow.holds Try.pinned (OpenSpec.upto plateMovesSpec)

/-- 'agraffelaw03.PlateBars', WHERE WHAT IT READS IS OF BULK AT MOST 1048576: true; the input reads as it did. -/
def plateBarsUptoRow : OpenClaim := { program := "ytahfliboanphkaa", sum := "ebed0d104c6947ed0d70bed2125a7f6277de92cd6ed527f3a23a617f47945530", func := "agraffe/agraffelaw03.PlateBars", spec := "plateBars", unfollowed := true, recurses := true, apart := false, narrowed := true }
def PlateBarsUptoSaid : Prop := plateBarsUptoRow.holds Try.pinned (OpenSpec.upto plateBarsSpec)

/-- 'agraffelaw03.PlateLevers', WHERE WHAT IT READS IS OF BULK AT MOST 1048576: true; the input reads as it did. -/
def plateLeversUptoRow : OpenClaim := { program := "ytahfliboanphkaa", sum := "ebed0d104c6947ed0d70bed2125a7f6277de92cd6ed527f3a23a617f47945530", func := "agraffe/agraffelaw03.PlateLevers", spec := "plateLevers", unfollowed := true, recurses := true, apart := false, narrowed := true }
def PlateLeversUptoSaid : Prop := plateLeversUptoRow.holds Try.pinned (OpenSpec.upto plateLeversSpec)

/-- 'agraffelaw03.PlateWorst', WHERE WHAT IT READS IS OF BULK AT MOST 1048576: true; the input reads as it did. -/
def plateWorstUptoRow : OpenClaim := { program := "ytahfliboanphkaa", sum := "ebed0d104c6947ed0d70bed2125a7f6277de92cd6ed527f3a23a617f47945530", func := "agraffe/agraffelaw03.PlateWorst", spec := "plateWorst", unfollowed := true, recurses := true, apart := false, narrowed := true }
def PlateWorstUptoSaid : Prop := plateWorstUptoRow.holds Try.pinned (OpenSpec.upto plateWorstSpec)

end Rows
end Go.Proofs.Ytahfliboanphkaa
