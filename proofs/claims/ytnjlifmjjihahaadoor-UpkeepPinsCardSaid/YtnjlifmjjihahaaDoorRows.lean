/-
  NARROWER THAN 'FOR EVERY INPUT', by the rows' own cells (each row's printed sentence says how): UpkeepPasses: laid · UpkeepOverpulls: laid · UpkeepPins: laid · UpkeepRaises: laid · UpkeepClimates: laid · UpkeepDrifts: laid · UpkeepMonotone: laid · UpkeepSignatures: laid · UpkeepExplains: laid · UpkeepWrong: laid · UpkeepHears: laid · UpkeepLeast: laid.
  DERIVED. THE GIVEN ROWS OF THIS SEAT. 12 by the template 'for every input the law returns true; each argument reads behind the call as it read before'; 0 by the template 'total and deterministic' (their statements: YtnjlifmjjihahaaDoorTotals.lean).
  GIVEN WITH THE SEED: the statements are not yours to turn. If you find one false, say at which input.
  Laid BY PROGRAM, IN A SANDBOX (cutbox-rows.mjs): the forced cells as the released guide's own fill.sh prints them over the translation 2ae09771dde1c118… (all of the seat's roots in one cut). By AI agents, Wed Nov 11 2026. No macro, syntax, notation, axiom, sorry.
-/
import Derived.Test.YtnjlifmjjihahaaDoorChecked
import GoSem.Claim
import GoSem.ClaimJoined
import GoSem.ClaimMapViews
import Derived.JoinedTies
import Derived.KernelRfl
namespace Go.Proofs.YtnjlifmjjihahaaDoor
/- THE CELL 'sum', in the pinned program and in every row, IS THE sha256 OF THE DUMP (.gsa) THAT YtnjlifmjjihahaaDoorProg.lean LOADS. Nothing in Lean hashes anything: it is a label: what it is worth is what the hold of that sum in a sandbox is worth. -/
noncomputable def Tryd.pinned : Pinned := { name := "ytnjlifmjjihahaadoor", sum := "2ae09771dde1c118c91bc422191ad68360e9226df6dd778c2c08b21145b9d8a5", checked := Tryd.checked }
namespace Rows
def none {H : Type} : Left H := { results := [], args := [] }

/- WHAT THE LISTED PACKAGE-LEVEL VARIABLES READ AS WHEN THE CALL BEGINS. Each datum BY PROGRAM (the guide's laid-datum.mjs) off the statement by which the dump's own 'gosem.cut.vars' lays the variable. In a bare row this is a premise. The card (YtnjlifmjjihahaaDoorCards.lean) ties it to the program's text. -/
def laid_agraffe_temper_primes {H : Type} : DataW H := .agg [.lit (.int .i64 2), .lit (.int .i64 3), .lit (.int .i64 5)]
def laid_math_bits_deBruijn64tab {H : Type} : DataW H := .agg [.lit (.int .u8 0), .lit (.int .u8 1), .lit (.int .u8 56), .lit (.int .u8 2), .lit (.int .u8 57), .lit (.int .u8 49), .lit (.int .u8 28), .lit (.int .u8 3), .lit (.int .u8 61), .lit (.int .u8 58), .lit (.int .u8 42), .lit (.int .u8 50), .lit (.int .u8 38), .lit (.int .u8 29), .lit (.int .u8 17), .lit (.int .u8 4), .lit (.int .u8 62), .lit (.int .u8 47), .lit (.int .u8 59), .lit (.int .u8 36), .lit (.int .u8 45), .lit (.int .u8 43), .lit (.int .u8 51), .lit (.int .u8 22), .lit (.int .u8 53), .lit (.int .u8 39), .lit (.int .u8 33), .lit (.int .u8 30), .lit (.int .u8 24), .lit (.int .u8 18), .lit (.int .u8 12), .lit (.int .u8 5), .lit (.int .u8 63), .lit (.int .u8 55), .lit (.int .u8 48), .lit (.int .u8 27), .lit (.int .u8 60), .lit (.int .u8 41), .lit (.int .u8 37), .lit (.int .u8 16), .lit (.int .u8 46), .lit (.int .u8 35), .lit (.int .u8 44), .lit (.int .u8 21), .lit (.int .u8 52), .lit (.int .u8 32), .lit (.int .u8 23), .lit (.int .u8 11), .lit (.int .u8 54), .lit (.int .u8 26), .lit (.int .u8 40), .lit (.int .u8 15), .lit (.int .u8 34), .lit (.int .u8 20), .lit (.int .u8 31), .lit (.int .u8 10), .lit (.int .u8 25), .lit (.int .u8 14), .lit (.int .u8 19), .lit (.int .u8 9), .lit (.int .u8 13), .lit (.int .u8 8), .lit (.int .u8 7), .lit (.int .u8 6)]

/-- 'agraffelaw07.UpkeepPasses': WHATEVER THE INPUT: true; the input reads as it did. -/
def upkeepPassesSpec : ChangeSpec := { name := "upkeepPasses", fn := fun _ => fun
  | [d1, d2, d3] => { results := [.lit (.bool true)], args := [d1, d2, d3] }
  | _ => none }
def upkeepPassesRow : OpenClaim := { program := "ytnjlifmjjihahaadoor", sum := "2ae09771dde1c118c91bc422191ad68360e9226df6dd778c2c08b21145b9d8a5", func := "agraffe/agraffelaw07.UpkeepPasses", spec := "upkeepPasses", unfollowed := true, recurses := true, named := ["agraffe/temper.primes"], plainKeys := false, apart := false, laid := [("agraffe/temper.primes", laid_agraffe_temper_primes)] }
def UpkeepPassesSaid : Prop := upkeepPassesRow.holds Tryd.pinned (OpenSpec.ofChange upkeepPassesSpec)

/-- ITS FALSE NEIGHBOUR: 'it returns false'. Refute it at one input. -/
def upkeepPassesWrong : ChangeSpec := { name := "upkeepPasses", fn := fun _ => fun
  | [d1, d2, d3] => { results := [.lit (.bool false)], args := [d1, d2, d3] }
  | _ => none }
def UpkeepPassesWrongFalsely : Prop := upkeepPassesRow.holds Tryd.pinned (OpenSpec.ofChange upkeepPassesWrong)

/-- 'agraffelaw07.UpkeepOverpulls': WHATEVER THE INPUT: true; the input reads as it did. -/
def upkeepOverpullsSpec : ChangeSpec := { name := "upkeepOverpulls", fn := fun _ => fun
  | [d1, d2] => { results := [.lit (.bool true)], args := [d1, d2] }
  | _ => none }
def upkeepOverpullsRow : OpenClaim := { program := "ytnjlifmjjihahaadoor", sum := "2ae09771dde1c118c91bc422191ad68360e9226df6dd778c2c08b21145b9d8a5", func := "agraffe/agraffelaw07.UpkeepOverpulls", spec := "upkeepOverpulls", unfollowed := true, recurses := true, named := ["agraffe/temper.primes"], plainKeys := false, apart := false, laid := [("agraffe/temper.primes", laid_agraffe_temper_primes)] }
def UpkeepOverpullsSaid : Prop := upkeepOverpullsRow.holds Tryd.pinned (OpenSpec.ofChange upkeepOverpullsSpec)

/-- ITS FALSE NEIGHBOUR: 'it returns false'. Refute it at one input. -/
def upkeepOverpullsWrong : ChangeSpec := { name := "upkeepOverpulls", fn := fun _ => fun
  | [d1, d2] => { results := [.lit (.bool false)], args := [d1, d2] }
  | _ => none }
def UpkeepOverpullsWrongFalsely : Prop := upkeepOverpullsRow.holds Tryd.pinned (OpenSpec.ofChange upkeepOverpullsWrong)

/-- 'agraffelaw07.UpkeepPins': WHATEVER THE INPUT: true; the input reads as it did. -/
def upkeepPinsSpec : ChangeSpec := { name := "upkeepPins", fn := fun _ => fun
  | [d1, d2] => { results := [.lit (.bool true)], args := [d1, d2] }
  | _ => none }
def upkeepPinsRow : OpenClaim := { program := "ytnjlifmjjihahaadoor", sum := "2ae09771dde1c118c91bc422191ad68360e9226df6dd778c2c08b21145b9d8a5", func := "agraffe/agraffelaw07.UpkeepPins", spec := "upkeepPins", unfollowed := true, recurses := true, named := ["agraffe/temper.primes"], plainKeys := false, apart := false, laid := [("agraffe/temper.primes", laid_agraffe_temper_primes)] }
def UpkeepPinsSaid : Prop := upkeepPinsRow.holds Tryd.pinned (OpenSpec.ofChange upkeepPinsSpec)

/-- ITS FALSE NEIGHBOUR: 'it returns false'. Refute it at one input. -/
def upkeepPinsWrong : ChangeSpec := { name := "upkeepPins", fn := fun _ => fun
  | [d1, d2] => { results := [.lit (.bool false)], args := [d1, d2] }
  | _ => none }
def UpkeepPinsWrongFalsely : Prop := upkeepPinsRow.holds Tryd.pinned (OpenSpec.ofChange upkeepPinsWrong)

/-- 'agraffelaw07.UpkeepRaises': WHATEVER THE INPUT: true; the input reads as it did. -/
def upkeepRaisesSpec : ChangeSpec := { name := "upkeepRaises", fn := fun _ => fun
  | [d1, d2, d3] => { results := [.lit (.bool true)], args := [d1, d2, d3] }
  | _ => none }
def upkeepRaisesRow : OpenClaim := { program := "ytnjlifmjjihahaadoor", sum := "2ae09771dde1c118c91bc422191ad68360e9226df6dd778c2c08b21145b9d8a5", func := "agraffe/agraffelaw07.UpkeepRaises", spec := "upkeepRaises", unfollowed := true, recurses := true, named := ["agraffe/temper.primes"], plainKeys := false, apart := false, laid := [("agraffe/temper.primes", laid_agraffe_temper_primes)] }
def UpkeepRaisesSaid : Prop := upkeepRaisesRow.holds Tryd.pinned (OpenSpec.ofChange upkeepRaisesSpec)

/-- ITS FALSE NEIGHBOUR: 'it returns false'. Refute it at one input. -/
def upkeepRaisesWrong : ChangeSpec := { name := "upkeepRaises", fn := fun _ => fun
  | [d1, d2, d3] => { results := [.lit (.bool false)], args := [d1, d2, d3] }
  | _ => none }
def UpkeepRaisesWrongFalsely : Prop := upkeepRaisesRow.holds Tryd.pinned (OpenSpec.ofChange upkeepRaisesWrong)

/-- 'agraffelaw07.UpkeepClimates': WHATEVER THE INPUT: true; the input reads as it did. -/
def upkeepClimatesSpec : ChangeSpec := { name := "upkeepClimates", fn := fun _ => fun
  | [d1, d2] => { results := [.lit (.bool true)], args := [d1, d2] }
  | _ => none }
def upkeepClimatesRow : OpenClaim := { program := "ytnjlifmjjihahaadoor", sum := "2ae09771dde1c118c91bc422191ad68360e9226df6dd778c2c08b21145b9d8a5", func := "agraffe/agraffelaw07.UpkeepClimates", spec := "upkeepClimates", unfollowed := true, recurses := true, named := ["agraffe/temper.primes"], plainKeys := false, apart := false, laid := [("agraffe/temper.primes", laid_agraffe_temper_primes)] }
def UpkeepClimatesSaid : Prop := upkeepClimatesRow.holds Tryd.pinned (OpenSpec.ofChange upkeepClimatesSpec)

/-- ITS FALSE NEIGHBOUR: 'it returns false'. Refute it at one input. -/
def upkeepClimatesWrong : ChangeSpec := { name := "upkeepClimates", fn := fun _ => fun
  | [d1, d2] => { results := [.lit (.bool false)], args := [d1, d2] }
  | _ => none }
def UpkeepClimatesWrongFalsely : Prop := upkeepClimatesRow.holds Tryd.pinned (OpenSpec.ofChange upkeepClimatesWrong)

/-- 'agraffelaw07.UpkeepDrifts': WHATEVER THE INPUT: true; the input reads as it did. -/
def upkeepDriftsSpec : ChangeSpec := { name := "upkeepDrifts", fn := fun _ => fun
  | [d1, d2, d3] => { results := [.lit (.bool true)], args := [d1, d2, d3] }
  | _ => none }
def upkeepDriftsRow : OpenClaim := { program := "ytnjlifmjjihahaadoor", sum := "2ae09771dde1c118c91bc422191ad68360e9226df6dd778c2c08b21145b9d8a5", func := "agraffe/agraffelaw07.UpkeepDrifts", spec := "upkeepDrifts", unfollowed := true, recurses := true, named := ["agraffe/temper.primes"], plainKeys := false, apart := false, laid := [("agraffe/temper.primes", laid_agraffe_temper_primes)] }
def UpkeepDriftsSaid : Prop := upkeepDriftsRow.holds Tryd.pinned (OpenSpec.ofChange upkeepDriftsSpec)

/-- ITS FALSE NEIGHBOUR: 'it returns false'. Refute it at one input. -/
def upkeepDriftsWrong : ChangeSpec := { name := "upkeepDrifts", fn := fun _ => fun
  | [d1, d2, d3] => { results := [.lit (.bool false)], args := [d1, d2, d3] }
  | _ => none }
def UpkeepDriftsWrongFalsely : Prop := upkeepDriftsRow.holds Tryd.pinned (OpenSpec.ofChange upkeepDriftsWrong)

/-- 'agraffelaw07.UpkeepMonotone': WHATEVER THE INPUT: true; the input reads as it did. -/
def upkeepMonotoneSpec : ChangeSpec := { name := "upkeepMonotone", fn := fun _ => fun
  | [d1, d2] => { results := [.lit (.bool true)], args := [d1, d2] }
  | _ => none }
def upkeepMonotoneRow : OpenClaim := { program := "ytnjlifmjjihahaadoor", sum := "2ae09771dde1c118c91bc422191ad68360e9226df6dd778c2c08b21145b9d8a5", func := "agraffe/agraffelaw07.UpkeepMonotone", spec := "upkeepMonotone", unfollowed := true, recurses := true, named := ["agraffe/temper.primes"], plainKeys := false, apart := false, laid := [("agraffe/temper.primes", laid_agraffe_temper_primes)] }
def UpkeepMonotoneSaid : Prop := upkeepMonotoneRow.holds Tryd.pinned (OpenSpec.ofChange upkeepMonotoneSpec)

/-- ITS FALSE NEIGHBOUR: 'it returns false'. Refute it at one input. -/
def upkeepMonotoneWrong : ChangeSpec := { name := "upkeepMonotone", fn := fun _ => fun
  | [d1, d2] => { results := [.lit (.bool false)], args := [d1, d2] }
  | _ => none }
def UpkeepMonotoneWrongFalsely : Prop := upkeepMonotoneRow.holds Tryd.pinned (OpenSpec.ofChange upkeepMonotoneWrong)

/-- 'agraffelaw07.UpkeepSignatures': WHATEVER THE INPUT: true; the input reads as it did. -/
def upkeepSignaturesSpec : ChangeSpec := { name := "upkeepSignatures", fn := fun _ => fun
  | [d1, d2] => { results := [.lit (.bool true)], args := [d1, d2] }
  | _ => none }
def upkeepSignaturesRow : OpenClaim := { program := "ytnjlifmjjihahaadoor", sum := "2ae09771dde1c118c91bc422191ad68360e9226df6dd778c2c08b21145b9d8a5", func := "agraffe/agraffelaw07.UpkeepSignatures", spec := "upkeepSignatures", unfollowed := true, recurses := true, named := ["agraffe/temper.primes", "math/bits.deBruijn64tab"], plainKeys := false, apart := false, laid := [("math/bits.deBruijn64tab", laid_math_bits_deBruijn64tab), ("agraffe/temper.primes", laid_agraffe_temper_primes)] }
def UpkeepSignaturesSaid : Prop := upkeepSignaturesRow.holds Tryd.pinned (OpenSpec.ofChange upkeepSignaturesSpec)

/-- ITS FALSE NEIGHBOUR: 'it returns false'. Refute it at one input. -/
def upkeepSignaturesWrong : ChangeSpec := { name := "upkeepSignatures", fn := fun _ => fun
  | [d1, d2] => { results := [.lit (.bool false)], args := [d1, d2] }
  | _ => none }
def UpkeepSignaturesWrongFalsely : Prop := upkeepSignaturesRow.holds Tryd.pinned (OpenSpec.ofChange upkeepSignaturesWrong)

/-- 'agraffelaw07.UpkeepExplains': WHATEVER THE INPUT: true; the input reads as it did. -/
def upkeepExplainsSpec : ChangeSpec := { name := "upkeepExplains", fn := fun _ => fun
  | [d1, d2, d3] => { results := [.lit (.bool true)], args := [d1, d2, d3] }
  | _ => none }
def upkeepExplainsRow : OpenClaim := { program := "ytnjlifmjjihahaadoor", sum := "2ae09771dde1c118c91bc422191ad68360e9226df6dd778c2c08b21145b9d8a5", func := "agraffe/agraffelaw07.UpkeepExplains", spec := "upkeepExplains", unfollowed := true, recurses := true, named := ["agraffe/temper.primes"], plainKeys := false, apart := false, laid := [("agraffe/temper.primes", laid_agraffe_temper_primes)] }
def UpkeepExplainsSaid : Prop := upkeepExplainsRow.holds Tryd.pinned (OpenSpec.ofChange upkeepExplainsSpec)

/-- ITS FALSE NEIGHBOUR: 'it returns false'. Refute it at one input. -/
def upkeepExplainsWrong : ChangeSpec := { name := "upkeepExplains", fn := fun _ => fun
  | [d1, d2, d3] => { results := [.lit (.bool false)], args := [d1, d2, d3] }
  | _ => none }
def UpkeepExplainsWrongFalsely : Prop := upkeepExplainsRow.holds Tryd.pinned (OpenSpec.ofChange upkeepExplainsWrong)

/-- 'agraffelaw07.UpkeepWrong': WHATEVER THE INPUT: true; the input reads as it did. -/
def upkeepWrongSpec : ChangeSpec := { name := "upkeepWrong", fn := fun _ => fun
  | [d1, d2] => { results := [.lit (.bool true)], args := [d1, d2] }
  | _ => none }
def upkeepWrongRow : OpenClaim := { program := "ytnjlifmjjihahaadoor", sum := "2ae09771dde1c118c91bc422191ad68360e9226df6dd778c2c08b21145b9d8a5", func := "agraffe/agraffelaw07.UpkeepWrong", spec := "upkeepWrong", unfollowed := true, recurses := true, named := ["agraffe/temper.primes", "math/bits.deBruijn64tab"], plainKeys := false, apart := false, laid := [("math/bits.deBruijn64tab", laid_math_bits_deBruijn64tab), ("agraffe/temper.primes", laid_agraffe_temper_primes)] }
def UpkeepWrongSaid : Prop := upkeepWrongRow.holds Tryd.pinned (OpenSpec.ofChange upkeepWrongSpec)

/-- ITS FALSE NEIGHBOUR: 'it returns false'. Refute it at one input. -/
def upkeepWrongWrong : ChangeSpec := { name := "upkeepWrong", fn := fun _ => fun
  | [d1, d2] => { results := [.lit (.bool false)], args := [d1, d2] }
  | _ => none }
def UpkeepWrongWrongFalsely : Prop := upkeepWrongRow.holds Tryd.pinned (OpenSpec.ofChange upkeepWrongWrong)

/-- 'agraffelaw07.UpkeepHears': WHATEVER THE INPUT: true; the input reads as it did. -/
def upkeepHearsSpec : ChangeSpec := { name := "upkeepHears", fn := fun _ => fun
  | [d1, d2] => { results := [.lit (.bool true)], args := [d1, d2] }
  | _ => none }
def upkeepHearsRow : OpenClaim := { program := "ytnjlifmjjihahaadoor", sum := "2ae09771dde1c118c91bc422191ad68360e9226df6dd778c2c08b21145b9d8a5", func := "agraffe/agraffelaw07.UpkeepHears", spec := "upkeepHears", unfollowed := true, recurses := true, named := ["agraffe/temper.primes"], plainKeys := false, apart := false, laid := [("agraffe/temper.primes", laid_agraffe_temper_primes)] }
def UpkeepHearsSaid : Prop := upkeepHearsRow.holds Tryd.pinned (OpenSpec.ofChange upkeepHearsSpec)

/-- ITS FALSE NEIGHBOUR: 'it returns false'. Refute it at one input. -/
def upkeepHearsWrong : ChangeSpec := { name := "upkeepHears", fn := fun _ => fun
  | [d1, d2] => { results := [.lit (.bool false)], args := [d1, d2] }
  | _ => none }
def UpkeepHearsWrongFalsely : Prop := upkeepHearsRow.holds Tryd.pinned (OpenSpec.ofChange upkeepHearsWrong)

/-- 'agraffelaw07.UpkeepLeast': WHATEVER THE INPUT: true; the input reads as it did. -/
def upkeepLeastSpec : ChangeSpec := { name := "upkeepLeast", fn := fun _ => fun
  | [d1, d2] => { results := [.lit (.bool true)], args := [d1, d2] }
  | _ => none }
def upkeepLeastRow : OpenClaim := { program := "ytnjlifmjjihahaadoor", sum := "2ae09771dde1c118c91bc422191ad68360e9226df6dd778c2c08b21145b9d8a5", func := "agraffe/agraffelaw07.UpkeepLeast", spec := "upkeepLeast", unfollowed := true, recurses := true, named := ["agraffe/temper.primes"], plainKeys := false, apart := false, laid := [("agraffe/temper.primes", laid_agraffe_temper_primes)] }
def UpkeepLeastSaid : Prop := upkeepLeastRow.holds Tryd.pinned (OpenSpec.ofChange upkeepLeastSpec)

/-- ITS FALSE NEIGHBOUR: 'it returns false'. Refute it at one input. -/
def upkeepLeastWrong : ChangeSpec := { name := "upkeepLeast", fn := fun _ => fun
  | [d1, d2] => { results := [.lit (.bool false)], args := [d1, d2] }
  | _ => none }
def UpkeepLeastWrongFalsely : Prop := upkeepLeastRow.holds Tryd.pinned (OpenSpec.ofChange upkeepLeastWrong)

/- THE SECOND FORM. 'bulk': how many values and letters a reading holds, each counted each time it is reached (what is shared counts as often as it is met; a slice's spare places count too). A statement '..UptoSaid' is the law's where the arguments, and the package variables that the reading takes, are together of bulk at most 1048576: NARROWER than '..Said'. Prove '..Said' where nothing that the law and all that it calls make is longer than what came in: it says more and counts as full. Else prove '..UptoSaid'. A law counts once. -/
mutual
def uptoBulk {H : Type} : DataW H → Nat
  | .lit (.string bytes) => bytes.length + 1
  | .lit _ => 1
  | .nil => 1
  | .ptr d => uptoBulk d + 1
  | .slice elems spare => uptoBulkAll elems + uptoBulkAll spare + 1
  | .agg parts => uptoBulkAll parts + 1
  | .iface _ d => uptoBulk d + 1
  | .map entries => uptoBulkEntries entries + 1
  | .held _ => 1
def uptoBulkAll {H : Type} : List (DataW H) → Nat
  | [] => 0
  | d :: r => uptoBulk d + uptoBulkAll r
def uptoBulkEntries {H : Type} : List (Lit × DataW H) → Nat
  | [] => 0
  | x :: r => uptoBulkEntry x + uptoBulkEntries r
def uptoBulkEntry {H : Type} : Lit × DataW H → Nat
  | (.string bytes, d) => bytes.length + uptoBulk d + 1
  | (_, d) => uptoBulk d + 1
 end
def uptoSmall : (H : Type) → List (DataW H) → Bool := fun _ ds => decide (uptoBulkAll ds ≤ 1048576)
def OpenSpec.upto (s : _root_.Go.ChangeSpec) : _root_.Go.OpenSpec := { _root_.Go.OpenSpec.ofChange s with cond := some uptoSmall }

/-- 'agraffelaw07.UpkeepPasses', WHERE WHAT IT READS IS OF BULK AT MOST 1048576: true; the input reads as it did. -/
def upkeepPassesUptoRow : OpenClaim := { program := "ytnjlifmjjihahaadoor", sum := "2ae09771dde1c118c91bc422191ad68360e9226df6dd778c2c08b21145b9d8a5", func := "agraffe/agraffelaw07.UpkeepPasses", spec := "upkeepPasses", unfollowed := true, recurses := true, named := ["agraffe/temper.primes"], plainKeys := false, apart := false, laid := [("agraffe/temper.primes", laid_agraffe_temper_primes)], narrowed := true }
def UpkeepPassesUptoSaid : Prop := upkeepPassesUptoRow.holds Tryd.pinned (OpenSpec.upto upkeepPassesSpec)

/-- 'agraffelaw07.UpkeepOverpulls', WHERE WHAT IT READS IS OF BULK AT MOST 1048576: true; the input reads as it did. -/
def upkeepOverpullsUptoRow : OpenClaim := { program := "ytnjlifmjjihahaadoor", sum := "2ae09771dde1c118c91bc422191ad68360e9226df6dd778c2c08b21145b9d8a5", func := "agraffe/agraffelaw07.UpkeepOverpulls", spec := "upkeepOverpulls", unfollowed := true, recurses := true, named := ["agraffe/temper.primes"], plainKeys := false, apart := false, laid := [("agraffe/temper.primes", laid_agraffe_temper_primes)], narrowed := true }
def UpkeepOverpullsUptoSaid : Prop := upkeepOverpullsUptoRow.holds Tryd.pinned (OpenSpec.upto upkeepOverpullsSpec)

/-- 'agraffelaw07.UpkeepPins', WHERE WHAT IT READS IS OF BULK AT MOST 1048576: true; the input reads as it did. -/
def upkeepPinsUptoRow : OpenClaim := { program := "ytnjlifmjjihahaadoor", sum := "2ae09771dde1c118c91bc422191ad68360e9226df6dd778c2c08b21145b9d8a5", func := "agraffe/agraffelaw07.UpkeepPins", spec := "upkeepPins", unfollowed := true, recurses := true, named := ["agraffe/temper.primes"], plainKeys := false, apart := false, laid := [("agraffe/temper.primes", laid_agraffe_temper_primes)], narrowed := true }
def UpkeepPinsUptoSaid : Prop := upkeepPinsUptoRow.holds Tryd.pinned (OpenSpec.upto upkeepPinsSpec)

/-- 'agraffelaw07.UpkeepRaises', WHERE WHAT IT READS IS OF BULK AT MOST 1048576: true; the input reads as it did. -/
def upkeepRaisesUptoRow : OpenClaim := { program := "ytnjlifmjjihahaadoor", sum := "2ae09771dde1c118c91bc422191ad68360e9226df6dd778c2c08b21145b9d8a5", func := "agraffe/agraffelaw07.UpkeepRaises", spec := "upkeepRaises", unfollowed := true, recurses := true, named := ["agraffe/temper.primes"], plainKeys := false, apart := false, laid := [("agraffe/temper.primes", laid_agraffe_temper_primes)], narrowed := true }
def UpkeepRaisesUptoSaid : Prop := upkeepRaisesUptoRow.holds Tryd.pinned (OpenSpec.upto upkeepRaisesSpec)

/-- 'agraffelaw07.UpkeepClimates', WHERE WHAT IT READS IS OF BULK AT MOST 1048576: true; the input reads as it did. -/
def upkeepClimatesUptoRow : OpenClaim := { program := "ytnjlifmjjihahaadoor", sum := "2ae09771dde1c118c91bc422191ad68360e9226df6dd778c2c08b21145b9d8a5", func := "agraffe/agraffelaw07.UpkeepClimates", spec := "upkeepClimates", unfollowed := true, recurses := true, named := ["agraffe/temper.primes"], plainKeys := false, apart := false, laid := [("agraffe/temper.primes", laid_agraffe_temper_primes)], narrowed := true }
def UpkeepClimatesUptoSaid : Prop := upkeepClimatesUptoRow.holds Tryd.pinned (OpenSpec.upto upkeepClimatesSpec)

/-- 'agraffelaw07.UpkeepDrifts', WHERE WHAT IT READS IS OF BULK AT MOST 1048576: true; the input reads as it did. -/
def upkeepDriftsUptoRow : OpenClaim := { program := "ytnjlifmjjihahaadoor", sum := "2ae09771dde1c118c91bc422191ad68360e9226df6dd778c2c08b21145b9d8a5", func := "agraffe/agraffelaw07.UpkeepDrifts", spec := "upkeepDrifts", unfollowed := true, recurses := true, named := ["agraffe/temper.primes"], plainKeys := false, apart := false, laid := [("agraffe/temper.primes", laid_agraffe_temper_primes)], narrowed := true }
def UpkeepDriftsUptoSaid : Prop := upkeepDriftsUptoRow.holds Tryd.pinned (OpenSpec.upto upkeepDriftsSpec)

/-- 'agraffelaw07.UpkeepMonotone', WHERE WHAT IT READS IS OF BULK AT MOST 1048576: true; the input reads as it did. -/
def upkeepMonotoneUptoRow : OpenClaim := { program := "ytnjlifmjjihahaadoor", sum := "2ae09771dde1c118c91bc422191ad68360e9226df6dd778c2c08b21145b9d8a5", func := "agraffe/agraffelaw07.UpkeepMonotone", spec := "upkeepMonotone", unfollowed := true, recurses := true, named := ["agraffe/temper.primes"], plainKeys := false, apart := false, laid := [("agraffe/temper.primes", laid_agraffe_temper_primes)], narrowed := true }
def UpkeepMonotoneUptoSaid : Prop := upkeepMonotoneUptoRow.holds Tryd.pinned (OpenSpec.upto upkeepMonotoneSpec)

/-- 'agraffelaw07.UpkeepSignatures', WHERE WHAT IT READS IS OF BULK AT MOST 1048576: true; the input reads as it did. -/
def upkeepSignaturesUptoRow : OpenClaim := { program := "ytnjlifmjjihahaadoor", sum := "2ae09771dde1c118c91bc422191ad68360e9226df6dd778c2c08b21145b9d8a5", func := "agraffe/agraffelaw07.UpkeepSignatures", spec := "upkeepSignatures", unfollowed := true, recurses := true, named := ["agraffe/temper.primes", "math/bits.deBruijn64tab"], plainKeys := false, apart := false, laid := [("math/bits.deBruijn64tab", laid_math_bits_deBruijn64tab), ("agraffe/temper.primes", laid_agraffe_temper_primes)], narrowed := true }
def UpkeepSignaturesUptoSaid : Prop := upkeepSignaturesUptoRow.holds Tryd.pinned (OpenSpec.upto upkeepSignaturesSpec)

/-- 'agraffelaw07.UpkeepExplains', WHERE WHAT IT READS IS OF BULK AT MOST 1048576: true; the input reads as it did. -/
def upkeepExplainsUptoRow : OpenClaim := { program := "ytnjlifmjjihahaadoor", sum := "2ae09771dde1c118c91bc422191ad68360e9226df6dd778c2c08b21145b9d8a5", func := "agraffe/agraffelaw07.UpkeepExplains", spec := "upkeepExplains", unfollowed := true, recurses := true, named := ["agraffe/temper.primes"], plainKeys := false, apart := false, laid := [("agraffe/temper.primes", laid_agraffe_temper_primes)], narrowed := true }
def UpkeepExplainsUptoSaid : Prop := upkeepExplainsUptoRow.holds Tryd.pinned (OpenSpec.upto upkeepExplainsSpec)

/-- 'agraffelaw07.UpkeepWrong', WHERE WHAT IT READS IS OF BULK AT MOST 1048576: true; the input reads as it did. -/
def upkeepWrongUptoRow : OpenClaim := { program := "ytnjlifmjjihahaadoor", sum := "2ae09771dde1c118c91bc422191ad68360e9226df6dd778c2c08b21145b9d8a5", func := "agraffe/agraffelaw07.UpkeepWrong", spec := "upkeepWrong", unfollowed := true, recurses := true, named := ["agraffe/temper.primes", "math/bits.deBruijn64tab"], plainKeys := false, apart := false, laid := [("math/bits.deBruijn64tab", laid_math_bits_deBruijn64tab), ("agraffe/temper.primes", laid_agraffe_temper_primes)], narrowed := true }
def UpkeepWrongUptoSaid : Prop := upkeepWrongUptoRow.holds Tryd.pinned (OpenSpec.upto upkeepWrongSpec)

/-- 'agraffelaw07.UpkeepHears', WHERE WHAT IT READS IS OF BULK AT MOST 1048576: true; the input reads as it did. -/
def upkeepHearsUptoRow : OpenClaim := { program := "ytnjlifmjjihahaadoor", sum := "2ae09771dde1c118c91bc422191ad68360e9226df6dd778c2c08b21145b9d8a5", func := "agraffe/agraffelaw07.UpkeepHears", spec := "upkeepHears", unfollowed := true, recurses := true, named := ["agraffe/temper.primes"], plainKeys := false, apart := false, laid := [("agraffe/temper.primes", laid_agraffe_temper_primes)], narrowed := true }
def UpkeepHearsUptoSaid : Prop := upkeepHearsUptoRow.holds Tryd.pinned (OpenSpec.upto upkeepHearsSpec)

/-- 'agraffelaw07.UpkeepLeast', WHERE WHAT IT READS IS OF BULK AT MOST 1048576: true; the input reads as it did. -/
def upkeepLeastUptoRow : OpenClaim := { program := "ytnjlifmjjihahaadoor", sum := "2ae09771dde1c118c91bc422191ad68360e9226df6dd778c2c08b21145b9d8a5", func := "agraffe/agraffelaw07.UpkeepLeast", spec := "upkeepLeast", unfollowed := true, recurses := true, named := ["agraffe/temper.primes"], plainKeys := false, apart := false, laid := [("agraffe/temper.primes", laid_agraffe_temper_primes)], narrowed := true }
def UpkeepLeastUptoSaid : Prop := upkeepLeastUptoRow.holds Tryd.pinned (OpenSpec.upto upkeepLeastSpec)

end Rows
end Go.Proofs.YtnjlifmjjihahaaDoor
