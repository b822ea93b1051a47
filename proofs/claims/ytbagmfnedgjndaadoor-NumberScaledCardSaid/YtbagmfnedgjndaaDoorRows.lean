/-
  NARROWER THAN 'FOR EVERY INPUT', by the rows' own cells (each row's printed sentence says how): NumberFracs: laid · NumberRounded: laid · NumberRoots: laid · NumberPitches: laid · NumberPowers: laid · NumberOrders: laid · NumberOctaves: laid · NumberEncloses: laid · NumberRanges: laid · NumberScaled: laid · NumberSystems: laid · NumberCircles: laid.
  DERIVED. THE GIVEN ROWS OF THIS SEAT. 12 by the template 'for every input the law returns true; each argument reads behind the call as it read before'; 0 by the template 'total and deterministic' (their statements: YtbagmfnedgjndaaDoorTotals.lean).
  GIVEN WITH THE SEED: the statements are not yours to turn. If you find one false, say at which input.
  Laid BY PROGRAM, IN A SANDBOX (cutbox-rows.mjs): the forced cells as the released guide's own fill.sh prints them over the translation 155eef316229fb75… (all of the seat's roots in one cut). By AI agents, Wed Nov 11 2026. No macro, syntax, notation, axiom, sorry.
-/
import Derived.Test.YtbagmfnedgjndaaDoorChecked
import GoSem.Claim
import GoSem.ClaimJoined
import GoSem.ClaimMapViews
import Derived.JoinedTies
import Derived.KernelRfl
namespace Go.Proofs.YtbagmfnedgjndaaDoor
/- THE CELL 'sum', in the pinned program and in every row, IS THE sha256 OF THE DUMP (.gsa) THAT YtbagmfnedgjndaaDoorProg.lean LOADS. Nothing in Lean hashes anything: it is a label: what it is worth is what the hold of that sum in a sandbox is worth. -/
noncomputable def Tryd.pinned : Pinned := { name := "ytbagmfnedgjndaadoor", sum := "155eef316229fb7546656d7b340b34814324c24e6223838d01a6b5cc3add1cf2", checked := Tryd.checked }
namespace Rows
def none {H : Type} : Left H := { results := [], args := [] }

/- WHAT THE LISTED PACKAGE-LEVEL VARIABLES READ AS WHEN THE CALL BEGINS. Each datum BY PROGRAM (the guide's laid-datum.mjs) off the statement by which the dump's own 'gosem.cut.vars' lays the variable. In a bare row this is a premise. The card (YtbagmfnedgjndaaDoorCards.lean) ties it to the program's text. -/
def laid_agraffe_number_primes {H : Type} : DataW H := .agg [.lit (.int .u64 2), .lit (.int .u64 3), .lit (.int .u64 5)]

/-- 'agraffelaw01.NumberFracs': WHATEVER THE INPUT: true; the input reads as it did. -/
def numberFracsSpec : ChangeSpec := { name := "numberFracs", fn := fun _ => fun
  | [d1, d2] => { results := [.lit (.bool true)], args := [d1, d2] }
  | _ => none }
def numberFracsRow : OpenClaim := { program := "ytbagmfnedgjndaadoor", sum := "155eef316229fb7546656d7b340b34814324c24e6223838d01a6b5cc3add1cf2", func := "agraffe/agraffelaw01.NumberFracs", spec := "numberFracs", inPlace := ["math/bits.Add64"], unfollowed := true, recurses := true, named := ["agraffe/number.primes"], apart := false, laid := [("agraffe/number.primes", laid_agraffe_number_primes)] }
def NumberFracsSaid : Prop := numberFracsRow.holds Tryd.pinned (OpenSpec.ofChange numberFracsSpec)

/-- ITS FALSE NEIGHBOUR: 'it returns false'. Refute it at one input. -/
def numberFracsWrong : ChangeSpec := { name := "numberFracs", fn := fun _ => fun
  | [d1, d2] => { results := [.lit (.bool false)], args := [d1, d2] }
  | _ => none }
def NumberFracsWrongFalsely : Prop := numberFracsRow.holds Tryd.pinned (OpenSpec.ofChange numberFracsWrong)

/-- 'agraffelaw01.NumberRounded': WHATEVER THE INPUT: true; the input reads as it did. -/
def numberRoundedSpec : ChangeSpec := { name := "numberRounded", fn := fun _ => fun
  | [d1, d2] => { results := [.lit (.bool true)], args := [d1, d2] }
  | _ => none }
def numberRoundedRow : OpenClaim := { program := "ytbagmfnedgjndaadoor", sum := "155eef316229fb7546656d7b340b34814324c24e6223838d01a6b5cc3add1cf2", func := "agraffe/agraffelaw01.NumberRounded", spec := "numberRounded", inPlace := ["math/bits.Add64"], unfollowed := true, recurses := true, named := ["agraffe/number.primes"], apart := false, laid := [("agraffe/number.primes", laid_agraffe_number_primes)] }
def NumberRoundedSaid : Prop := numberRoundedRow.holds Tryd.pinned (OpenSpec.ofChange numberRoundedSpec)

/-- ITS FALSE NEIGHBOUR: 'it returns false'. Refute it at one input. -/
def numberRoundedWrong : ChangeSpec := { name := "numberRounded", fn := fun _ => fun
  | [d1, d2] => { results := [.lit (.bool false)], args := [d1, d2] }
  | _ => none }
def NumberRoundedWrongFalsely : Prop := numberRoundedRow.holds Tryd.pinned (OpenSpec.ofChange numberRoundedWrong)

/-- 'agraffelaw01.NumberRoots': WHATEVER THE INPUT: true; the input reads as it did. -/
def numberRootsSpec : ChangeSpec := { name := "numberRoots", fn := fun _ => fun
  | [d1, d2] => { results := [.lit (.bool true)], args := [d1, d2] }
  | _ => none }
def numberRootsRow : OpenClaim := { program := "ytbagmfnedgjndaadoor", sum := "155eef316229fb7546656d7b340b34814324c24e6223838d01a6b5cc3add1cf2", func := "agraffe/agraffelaw01.NumberRoots", spec := "numberRoots", inPlace := ["math/bits.Add64"], unfollowed := true, recurses := true, named := ["agraffe/number.primes"], apart := false, laid := [("agraffe/number.primes", laid_agraffe_number_primes)] }
def NumberRootsSaid : Prop := numberRootsRow.holds Tryd.pinned (OpenSpec.ofChange numberRootsSpec)

/-- ITS FALSE NEIGHBOUR: 'it returns false'. Refute it at one input. -/
def numberRootsWrong : ChangeSpec := { name := "numberRoots", fn := fun _ => fun
  | [d1, d2] => { results := [.lit (.bool false)], args := [d1, d2] }
  | _ => none }
def NumberRootsWrongFalsely : Prop := numberRootsRow.holds Tryd.pinned (OpenSpec.ofChange numberRootsWrong)

/-- 'agraffelaw01.NumberPitches': WHATEVER THE INPUT: true; the input reads as it did. -/
def numberPitchesSpec : ChangeSpec := { name := "numberPitches", fn := fun _ => fun
  | [d1, d2] => { results := [.lit (.bool true)], args := [d1, d2] }
  | _ => none }
def numberPitchesRow : OpenClaim := { program := "ytbagmfnedgjndaadoor", sum := "155eef316229fb7546656d7b340b34814324c24e6223838d01a6b5cc3add1cf2", func := "agraffe/agraffelaw01.NumberPitches", spec := "numberPitches", inPlace := ["math/bits.Add64"], unfollowed := true, recurses := true, named := ["agraffe/number.primes"], apart := false, laid := [("agraffe/number.primes", laid_agraffe_number_primes)] }
def NumberPitchesSaid : Prop := numberPitchesRow.holds Tryd.pinned (OpenSpec.ofChange numberPitchesSpec)

/-- ITS FALSE NEIGHBOUR: 'it returns false'. Refute it at one input. -/
def numberPitchesWrong : ChangeSpec := { name := "numberPitches", fn := fun _ => fun
  | [d1, d2] => { results := [.lit (.bool false)], args := [d1, d2] }
  | _ => none }
def NumberPitchesWrongFalsely : Prop := numberPitchesRow.holds Tryd.pinned (OpenSpec.ofChange numberPitchesWrong)

/-- 'agraffelaw01.NumberPowers': WHATEVER THE INPUT: true; the input reads as it did. -/
def numberPowersSpec : ChangeSpec := { name := "numberPowers", fn := fun _ => fun
  | [d1, d2] => { results := [.lit (.bool true)], args := [d1, d2] }
  | _ => none }
def numberPowersRow : OpenClaim := { program := "ytbagmfnedgjndaadoor", sum := "155eef316229fb7546656d7b340b34814324c24e6223838d01a6b5cc3add1cf2", func := "agraffe/agraffelaw01.NumberPowers", spec := "numberPowers", inPlace := ["math/bits.Add64"], unfollowed := true, recurses := true, named := ["agraffe/number.primes"], apart := false, laid := [("agraffe/number.primes", laid_agraffe_number_primes)] }
def NumberPowersSaid : Prop := numberPowersRow.holds Tryd.pinned (OpenSpec.ofChange numberPowersSpec)

/-- ITS FALSE NEIGHBOUR: 'it returns false'. Refute it at one input. -/
def numberPowersWrong : ChangeSpec := { name := "numberPowers", fn := fun _ => fun
  | [d1, d2] => { results := [.lit (.bool false)], args := [d1, d2] }
  | _ => none }
def NumberPowersWrongFalsely : Prop := numberPowersRow.holds Tryd.pinned (OpenSpec.ofChange numberPowersWrong)

/-- 'agraffelaw01.NumberOrders': WHATEVER THE INPUT: true; the input reads as it did. -/
def numberOrdersSpec : ChangeSpec := { name := "numberOrders", fn := fun _ => fun
  | [d1, d2, d3] => { results := [.lit (.bool true)], args := [d1, d2, d3] }
  | _ => none }
def numberOrdersRow : OpenClaim := { program := "ytbagmfnedgjndaadoor", sum := "155eef316229fb7546656d7b340b34814324c24e6223838d01a6b5cc3add1cf2", func := "agraffe/agraffelaw01.NumberOrders", spec := "numberOrders", inPlace := ["math/bits.Add64"], unfollowed := true, recurses := true, named := ["agraffe/number.primes"], apart := false, laid := [("agraffe/number.primes", laid_agraffe_number_primes)] }
def NumberOrdersSaid : Prop := numberOrdersRow.holds Tryd.pinned (OpenSpec.ofChange numberOrdersSpec)

/-- ITS FALSE NEIGHBOUR: 'it returns false'. Refute it at one input. -/
def numberOrdersWrong : ChangeSpec := { name := "numberOrders", fn := fun _ => fun
  | [d1, d2, d3] => { results := [.lit (.bool false)], args := [d1, d2, d3] }
  | _ => none }
def NumberOrdersWrongFalsely : Prop := numberOrdersRow.holds Tryd.pinned (OpenSpec.ofChange numberOrdersWrong)

/-- 'agraffelaw01.NumberOctaves': WHATEVER THE INPUT: true; the input reads as it did. -/
def numberOctavesSpec : ChangeSpec := { name := "numberOctaves", fn := fun _ => fun
  | [d] => { results := [.lit (.bool true)], args := [d] }
  | _ => none }
def numberOctavesRow : OpenClaim := { program := "ytbagmfnedgjndaadoor", sum := "155eef316229fb7546656d7b340b34814324c24e6223838d01a6b5cc3add1cf2", func := "agraffe/agraffelaw01.NumberOctaves", spec := "numberOctaves", inPlace := ["math/bits.Add64"], unfollowed := true, recurses := true, named := ["agraffe/number.primes"], apart := false, laid := [("agraffe/number.primes", laid_agraffe_number_primes)] }
def NumberOctavesSaid : Prop := numberOctavesRow.holds Tryd.pinned (OpenSpec.ofChange numberOctavesSpec)

/-- ITS FALSE NEIGHBOUR: 'it returns false'. Refute it at one input. -/
def numberOctavesWrong : ChangeSpec := { name := "numberOctaves", fn := fun _ => fun
  | [d] => { results := [.lit (.bool false)], args := [d] }
  | _ => none }
def NumberOctavesWrongFalsely : Prop := numberOctavesRow.holds Tryd.pinned (OpenSpec.ofChange numberOctavesWrong)

/-- 'agraffelaw01.NumberEncloses': WHATEVER THE INPUT: true; the input reads as it did. -/
def numberEnclosesSpec : ChangeSpec := { name := "numberEncloses", fn := fun _ => fun
  | [d1, d2] => { results := [.lit (.bool true)], args := [d1, d2] }
  | _ => none }
def numberEnclosesRow : OpenClaim := { program := "ytbagmfnedgjndaadoor", sum := "155eef316229fb7546656d7b340b34814324c24e6223838d01a6b5cc3add1cf2", func := "agraffe/agraffelaw01.NumberEncloses", spec := "numberEncloses", inPlace := ["math/bits.Add64"], unfollowed := true, recurses := true, named := ["agraffe/number.primes"], apart := false, laid := [("agraffe/number.primes", laid_agraffe_number_primes)] }
def NumberEnclosesSaid : Prop := numberEnclosesRow.holds Tryd.pinned (OpenSpec.ofChange numberEnclosesSpec)

/-- ITS FALSE NEIGHBOUR: 'it returns false'. Refute it at one input. -/
def numberEnclosesWrong : ChangeSpec := { name := "numberEncloses", fn := fun _ => fun
  | [d1, d2] => { results := [.lit (.bool false)], args := [d1, d2] }
  | _ => none }
def NumberEnclosesWrongFalsely : Prop := numberEnclosesRow.holds Tryd.pinned (OpenSpec.ofChange numberEnclosesWrong)

/-- 'agraffelaw01.NumberRanges': WHATEVER THE INPUT: true; the input reads as it did. -/
def numberRangesSpec : ChangeSpec := { name := "numberRanges", fn := fun _ => fun
  | [d1, d2] => { results := [.lit (.bool true)], args := [d1, d2] }
  | _ => none }
def numberRangesRow : OpenClaim := { program := "ytbagmfnedgjndaadoor", sum := "155eef316229fb7546656d7b340b34814324c24e6223838d01a6b5cc3add1cf2", func := "agraffe/agraffelaw01.NumberRanges", spec := "numberRanges", inPlace := ["math/bits.Add64"], unfollowed := true, recurses := true, named := ["agraffe/number.primes"], apart := false, laid := [("agraffe/number.primes", laid_agraffe_number_primes)] }
def NumberRangesSaid : Prop := numberRangesRow.holds Tryd.pinned (OpenSpec.ofChange numberRangesSpec)

/-- ITS FALSE NEIGHBOUR: 'it returns false'. Refute it at one input. -/
def numberRangesWrong : ChangeSpec := { name := "numberRanges", fn := fun _ => fun
  | [d1, d2] => { results := [.lit (.bool false)], args := [d1, d2] }
  | _ => none }
def NumberRangesWrongFalsely : Prop := numberRangesRow.holds Tryd.pinned (OpenSpec.ofChange numberRangesWrong)

/-- 'agraffelaw01.NumberScaled': WHATEVER THE INPUT: true; the input reads as it did. -/
def numberScaledSpec : ChangeSpec := { name := "numberScaled", fn := fun _ => fun
  | [d1, d2] => { results := [.lit (.bool true)], args := [d1, d2] }
  | _ => none }
def numberScaledRow : OpenClaim := { program := "ytbagmfnedgjndaadoor", sum := "155eef316229fb7546656d7b340b34814324c24e6223838d01a6b5cc3add1cf2", func := "agraffe/agraffelaw01.NumberScaled", spec := "numberScaled", inPlace := ["math/bits.Add64"], unfollowed := true, recurses := true, named := ["agraffe/number.primes"], apart := false, laid := [("agraffe/number.primes", laid_agraffe_number_primes)] }
def NumberScaledSaid : Prop := numberScaledRow.holds Tryd.pinned (OpenSpec.ofChange numberScaledSpec)

/-- ITS FALSE NEIGHBOUR: 'it returns false'. Refute it at one input. -/
def numberScaledWrong : ChangeSpec := { name := "numberScaled", fn := fun _ => fun
  | [d1, d2] => { results := [.lit (.bool false)], args := [d1, d2] }
  | _ => none }
def NumberScaledWrongFalsely : Prop := numberScaledRow.holds Tryd.pinned (OpenSpec.ofChange numberScaledWrong)

/-- 'agraffelaw01.NumberSystems': WHATEVER THE INPUT: true; the input reads as it did. -/
def numberSystemsSpec : ChangeSpec := { name := "numberSystems", fn := fun _ => fun
  | [d1, d2] => { results := [.lit (.bool true)], args := [d1, d2] }
  | _ => none }
def numberSystemsRow : OpenClaim := { program := "ytbagmfnedgjndaadoor", sum := "155eef316229fb7546656d7b340b34814324c24e6223838d01a6b5cc3add1cf2", func := "agraffe/agraffelaw01.NumberSystems", spec := "numberSystems", inPlace := ["math/bits.Add64"], unfollowed := true, recurses := true, named := ["agraffe/number.primes"], apart := false, laid := [("agraffe/number.primes", laid_agraffe_number_primes)] }
def NumberSystemsSaid : Prop := numberSystemsRow.holds Tryd.pinned (OpenSpec.ofChange numberSystemsSpec)

/-- ITS FALSE NEIGHBOUR: 'it returns false'. Refute it at one input. -/
def numberSystemsWrong : ChangeSpec := { name := "numberSystems", fn := fun _ => fun
  | [d1, d2] => { results := [.lit (.bool false)], args := [d1, d2] }
  | _ => none }
def NumberSystemsWrongFalsely : Prop := numberSystemsRow.holds Tryd.pinned (OpenSpec.ofChange numberSystemsWrong)

/-- 'agraffelaw01.NumberCircles': WHATEVER THE INPUT: true; the input reads as it did. -/
def numberCirclesSpec : ChangeSpec := { name := "numberCircles", fn := fun _ => fun
  | [d1, d2, d3] => { results := [.lit (.bool true)], args := [d1, d2, d3] }
  | _ => none }
def numberCirclesRow : OpenClaim := { program := "ytbagmfnedgjndaadoor", sum := "155eef316229fb7546656d7b340b34814324c24e6223838d01a6b5cc3add1cf2", func := "agraffe/agraffelaw01.NumberCircles", spec := "numberCircles", inPlace := ["math/bits.Add64"], unfollowed := true, recurses := true, named := ["agraffe/number.primes"], apart := false, laid := [("agraffe/number.primes", laid_agraffe_number_primes)] }
def NumberCirclesSaid : Prop := numberCirclesRow.holds Tryd.pinned (OpenSpec.ofChange numberCirclesSpec)

/-- ITS FALSE NEIGHBOUR: 'it returns false'. Refute it at one input. -/
def numberCirclesWrong : ChangeSpec := { name := "numberCircles", fn := fun _ => fun
  | [d1, d2, d3] => { results := [.lit (.bool false)], args := [d1, d2, d3] }
  | _ => none }
def NumberCirclesWrongFalsely : Prop := numberCirclesRow.holds Tryd.pinned (OpenSpec.ofChange numberCirclesWrong)

/- THE SECOND FORM. 'bulk': how many values and letters a reading holds, each counted each time it is reached (what is shared counts as often as it is met; a slice's spare places count too). A statement '..UptoSaid' is the law's where the arguments, and the package variables that the reading takes, are together of bulk at most 1048576: NARROWER than '..Said'. Prove '..Said' where nothing that the law and all that it calls make is longer than what came in: it says more and counts as full. Else prove '..UptoSaid'. A law counts once. -/
mutual
def uptoBulk {H : Type} : DataW H → Nat
  | .lit (.string bytes) => bytes.length + 1
  | .lit _ => 1
  | .nil => 1
  | .ptr d => uptoBulk d + 1
  | .slice elems spare => uptoBulkAll elems + uptoBulkAll spare + 1
  | .agg parts => uptoBulkAll parts + 1
  | .iface _ d => uptoBulk d + 1
  | .map entries => uptoBulkEntries entries + 1
  | .held _ => 1
def uptoBulkAll {H : Type} : List (DataW H) → Nat
  | [] => 0
  | d :: r => uptoBulk d + uptoBulkAll r
def uptoBulkEntries {H : Type} : List (Lit × DataW H) → Nat
  | [] => 0
  | x :: r => uptoBulkEntry x + uptoBulkEntries r
def uptoBulkEntry {H : Type} : Lit × DataW H → Nat
  | (.string bytes, d) => bytes.length + uptoBulk d + 1
  | (_, d) => uptoBulk d + 1
 end
def uptoSmall : (H : Type) → List (DataW H) → Bool := fun _ ds => decide (uptoBulkAll ds ≤ 1048576)
def OpenSpec.upto (s : _root_.Go.ChangeSpec) : _root_.Go.OpenSpec := { _root_.Go.OpenSpec.ofChange s with cond := some uptoSmall }

/-- 'agraffelaw01.NumberFracs', WHERE WHAT IT READS IS OF BULK AT MOST 1048576: true; the input reads as it did. -/
def numberFracsUptoRow : OpenClaim := { program := "ytbagmfnedgjndaadoor", sum := "155eef316229fb7546656d7b340b34814324c24e6223838d01a6b5cc3add1cf2", func := "agraffe/agraffelaw01.NumberFracs", spec := "numberFracs", inPlace := ["math/bits.Add64"], unfollowed := true, recurses := true, named := ["agraffe/number.primes"], apart := false, laid := [("agraffe/number.primes", laid_agraffe_number_primes)], narrowed := true }
def NumberFracsUptoSaid : Prop := numberFracsUptoRow.holds Tryd.pinned (OpenSpec.upto numberFracsSpec)

/-- 'agraffelaw01.NumberRounded', WHERE WHAT IT READS IS OF BULK AT MOST 1048576: true; the input reads as it did. -/
def numberRoundedUptoRow : OpenClaim := { program := "ytbagmfnedgjndaadoor", sum := "155eef316229fb7546656d7b340b34814324c24e6223838d01a6b5cc3add1cf2", func := "agraffe/agraffelaw01.NumberRounded", spec := "numberRounded", inPlace := ["math/bits.Add64"], unfollowed := true, recurses := true, named := ["agraffe/number.primes"], apart := false, laid := [("agraffe/number.primes", laid_agraffe_number_primes)], narrowed := true }
def NumberRoundedUptoSaid : Prop := numberRoundedUptoRow.holds Tryd.pinned (OpenSpec.upto numberRoundedSpec)

/-- 'agraffelaw01.NumberRoots', WHERE WHAT IT READS IS OF BULK AT MOST 1048576: true; the input reads as it did. -/
def numberRootsUptoRow : OpenClaim := { program := "ytbagmfnedgjndaadoor", sum := "155eef316229fb7546656d7b340b34814324c24e6223838d01a6b5cc3add1cf2", func := "agraffe/agraffelaw01.NumberRoots", spec := "numberRoots", inPlace := ["math/bits.Add64"], unfollowed := true, recurses := true, named := ["agraffe/number.primes"], apart := false, laid := [("agraffe/number.primes", laid_agraffe_number_primes)], narrowed := true }
def NumberRootsUptoSaid : Prop := numberRootsUptoRow.holds Tryd.pinned (OpenSpec.upto numberRootsSpec)

/-- 'agraffelaw01.NumberPitches', WHERE WHAT IT READS IS OF BULK AT MOST 1048576: true; the input reads as it did. -/
def numberPitchesUptoRow : OpenClaim := { program := "ytbagmfnedgjndaadoor", sum := "155eef316229fb7546656d7b340b34814324c24e6223838d01a6b5cc3add1cf2", func := "agraffe/agraffelaw01.NumberPitches", spec := "numberPitches", inPlace := ["math/bits.Add64"], unfollowed := true, recurses := true, named := ["agraffe/number.primes"], apart := false, laid := [("agraffe/number.primes", laid_agraffe_number_primes)], narrowed := true }
def NumberPitchesUptoSaid : Prop := numberPitchesUptoRow.holds Tryd.pinned (OpenSpec.upto numberPitchesSpec)

/-- 'agraffelaw01.NumberPowers', WHERE WHAT IT READS IS OF BULK AT MOST 1048576: true; the input reads as it did. -/
def numberPowersUptoRow : OpenClaim := { program := "ytbagmfnedgjndaadoor", sum := "155eef316229fb7546656d7b340b34814324c24e6223838d01a6b5cc3add1cf2", func := "agraffe/agraffelaw01.NumberPowers", spec := "numberPowers", inPlace := ["math/bits.Add64"], unfollowed := true, recurses := true, named := ["agraffe/number.primes"], apart := false, laid := [("agraffe/number.primes", laid_agraffe_number_primes)], narrowed := true }
def NumberPowersUptoSaid : Prop := numberPowersUptoRow.holds Tryd.pinned (OpenSpec.upto numberPowersSpec)

/-- 'agraffelaw01.NumberOrders', WHERE WHAT IT READS IS OF BULK AT MOST 1048576: true; the input reads as it did. -/
def numberOrdersUptoRow : OpenClaim := { program := "ytbagmfnedgjndaadoor", sum := "155eef316229fb7546656d7b340b34814324c24e6223838d01a6b5cc3add1cf2", func := "agraffe/agraffelaw01.NumberOrders", spec := "numberOrders", inPlace := ["math/bits.Add64"], unfollowed := true, recurses := true, named := ["agraffe/number.primes"], apart := false, laid := [("agraffe/number.primes", laid_agraffe_number_primes)], narrowed := true }
def NumberOrdersUptoSaid : Prop := numberOrdersUptoRow.holds Tryd.pinned (OpenSpec.upto numberOrdersSpec)

/-- 'agraffelaw01.NumberOctaves', WHERE WHAT IT READS IS OF BULK AT MOST 1048576: true; the input reads as it did. -/
def numberOctavesUptoRow : OpenClaim := { program := "ytbagmfnedgjndaadoor", sum := "155eef316229fb7546656d7b340b34814324c24e6223838d01a6b5cc3add1cf2", func := "agraffe/agraffelaw01.NumberOctaves", spec := "numberOctaves", inPlace := ["math/bits.Add64"], unfollowed := true, recurses := true, named := ["agraffe/number.primes"], apart := false, laid := [("agraffe/number.primes", laid_agraffe_number_primes)], narrowed := true }
def NumberOctavesUptoSaid : Prop := numberOctavesUptoRow.holds Tryd.pinned (OpenSpec.upto numberOctavesSpec)

/-- 'agraffelaw01.NumberEncloses', WHERE WHAT IT READS IS OF BULK AT MOST 1048576: true; the input reads as it did. -/
def numberEnclosesUptoRow : OpenClaim := { program := "ytbagmfnedgjndaadoor", sum := "155eef316229fb7546656d7b340b34814324c24e6223838d01a6b5cc3add1cf2", func := "agraffe/agraffelaw01.NumberEncloses", spec := "numberEncloses", inPlace := ["math/bits.Add64"], unfollowed := true, recurses := true, named := ["agraffe/number.primes"], apart := false, laid := [("agraffe/number.primes", laid_agraffe_number_primes)], narrowed := true }
def NumberEnclosesUptoSaid : Prop := numberEnclosesUptoRow.holds Tryd.pinned (OpenSpec.upto numberEnclosesSpec)

/-- 'agraffelaw01.NumberRanges', WHERE WHAT IT READS IS OF BULK AT MOST 1048576: true; the input reads as it did. -/
def numberRangesUptoRow : OpenClaim := { program := "ytbagmfnedgjndaadoor", sum := "155eef316229fb7546656d7b340b34814324c24e6223838d01a6b5cc3add1cf2", func := "agraffe/agraffelaw01.NumberRanges", spec := "numberRanges", inPlace := ["math/bits.Add64"], unfollowed := true, recurses := true, named := ["agraffe/number.primes"], apart := false, laid := [("agraffe/number.primes", laid_agraffe_number_primes)], narrowed := true }
def NumberRangesUptoSaid : Prop := numberRangesUptoRow.holds Tryd.pinned (OpenSpec.upto numberRangesSpec)

/-- 'agraffelaw01.NumberScaled', WHERE WHAT IT READS IS OF BULK AT MOST 1048576: true; the input reads as it did. -/
def numberScaledUptoRow : OpenClaim := { program := "ytbagmfnedgjndaadoor", sum := "155eef316229fb7546656d7b340b34814324c24e6223838d01a6b5cc3add1cf2", func := "agraffe/agraffelaw01.NumberScaled", spec := "numberScaled", inPlace := ["math/bits.Add64"], unfollowed := true, recurses := true, named := ["agraffe/number.primes"], apart := false, laid := [("agraffe/number.primes", laid_agraffe_number_primes)], narrowed := true }
def NumberScaledUptoSaid : Prop := numberScaledUptoRow.holds Tryd.pinned (OpenSpec.upto numberScaledSpec)

/-- 'agraffelaw01.NumberSystems', WHERE WHAT IT READS IS OF BULK AT MOST 1048576: true; the input reads as it did. -/
def numberSystemsUptoRow : OpenClaim := { program := "ytbagmfnedgjndaadoor", sum := "155eef316229fb7546656d7b340b34814324c24e6223838d01a6b5cc3add1cf2", func := "agraffe/agraffelaw01.NumberSystems", spec := "numberSystems", inPlace := ["math/bits.Add64"], unfollowed := true, recurses := true, named := ["agraffe/number.primes"], apart := false, laid := [("agraffe/number.primes", laid_agraffe_number_primes)], narrowed := true }
def NumberSystemsUptoSaid : Prop := numberSystemsUptoRow.holds Tryd.pinned (OpenSpec.upto numberSystemsSpec)

/-- 'agraffelaw01.NumberCircles', WHERE WHAT IT READS IS OF BULK AT MOST 1048576: true; the input reads as it did. -/
def numberCirclesUptoRow : OpenClaim := { program := "ytbagmfnedgjndaadoor", sum := "155eef316229fb7546656d7b340b34814324c24e6223838d01a6b5cc3add1cf2", func := "agraffe/agraffelaw01.NumberCircles", spec := "numberCircles", inPlace := ["math/bits.Add64"], unfollowed := true, recurses := true, named := ["agraffe/number.primes"], apart := false, laid := [("agraffe/number.primes", laid_agraffe_number_primes)], narrowed := true }
def NumberCirclesUptoSaid : Prop := numberCirclesUptoRow.holds Tryd.pinned (OpenSpec.upto numberCirclesSpec)

end Rows
end Go.Proofs.YtbagmfnedgjndaaDoor
