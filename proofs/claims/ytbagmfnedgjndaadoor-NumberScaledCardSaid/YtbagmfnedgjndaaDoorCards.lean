/-
  DERIVED. GIVEN WITH THE SEED: THE CARDS: each row of YtbagmfnedgjndaaDoorRows.lean that lists a variable, with what it lists TIED to the program's text (the seventh form; the later family's looks); each row that meets fmt, with fmt's text TOLD by the authors' own Lean function (tested against real Go, not proved from fmt's source: count such statements apart). THE CARD IS WHAT COUNTS. Prove the row's statement (the work); the ties are given (YtbagmfnedgjndaaDoorTie.lean); close each card by the builder's one call (the guide's Derived/Test/ToyasCard.lean, 'card_holds'). Laid BY PROGRAM, IN A SANDBOX (cutbox-door.mjs). By AI agents, Wed Nov 11 2026. No macro, syntax, notation, axiom, sorry.
-/
import Derived.Test.YtbagmfnedgjndaaDoorRows
import GoSem.ClaimSeven
namespace Go.Proofs.YtbagmfnedgjndaaDoor
namespace Rows

/-- THE TIED CARD OF 'agraffelaw01.NumberFracs'. -/
def numberFracsCard : Claim7 := { stood := { row := numberFracsRow, standIns := [], harness := (true, "0d3e08e15781500d45c7eda445d9b67a9a0ee4587940ca07537d1702629a11cc"), looks := false }, kinds := [], alts := [], laidByText := true, laidKinds := [.data], laidTests := true, laidLooks := .later }
def NumberFracsCardSaid : Prop := Claim7.holds Tryd.pinned (.plain (OpenSpec.ofChange numberFracsSpec)) numberFracsCard

/-- THE TIED CARD OF 'agraffelaw01.NumberRounded'. -/
def numberRoundedCard : Claim7 := { stood := { row := numberRoundedRow, standIns := [], harness := (true, "0d3e08e15781500d45c7eda445d9b67a9a0ee4587940ca07537d1702629a11cc"), looks := false }, kinds := [], alts := [], laidByText := true, laidKinds := [.data], laidTests := true, laidLooks := .later }
def NumberRoundedCardSaid : Prop := Claim7.holds Tryd.pinned (.plain (OpenSpec.ofChange numberRoundedSpec)) numberRoundedCard

/-- THE TIED CARD OF 'agraffelaw01.NumberRoots'. -/
def numberRootsCard : Claim7 := { stood := { row := numberRootsRow, standIns := [], harness := (true, "0d3e08e15781500d45c7eda445d9b67a9a0ee4587940ca07537d1702629a11cc"), looks := false }, kinds := [], alts := [], laidByText := true, laidKinds := [.data], laidTests := true, laidLooks := .later }
def NumberRootsCardSaid : Prop := Claim7.holds Tryd.pinned (.plain (OpenSpec.ofChange numberRootsSpec)) numberRootsCard

/-- THE TIED CARD OF 'agraffelaw01.NumberPitches'. -/
def numberPitchesCard : Claim7 := { stood := { row := numberPitchesRow, standIns := [], harness := (true, "0d3e08e15781500d45c7eda445d9b67a9a0ee4587940ca07537d1702629a11cc"), looks := false }, kinds := [], alts := [], laidByText := true, laidKinds := [.data], laidTests := true, laidLooks := .later }
def NumberPitchesCardSaid : Prop := Claim7.holds Tryd.pinned (.plain (OpenSpec.ofChange numberPitchesSpec)) numberPitchesCard

/-- THE TIED CARD OF 'agraffelaw01.NumberPowers'. -/
def numberPowersCard : Claim7 := { stood := { row := numberPowersRow, standIns := [], harness := (true, "0d3e08e15781500d45c7eda445d9b67a9a0ee4587940ca07537d1702629a11cc"), looks := false }, kinds := [], alts := [], laidByText := true, laidKinds := [.data], laidTests := true, laidLooks := .later }
def NumberPowersCardSaid : Prop := Claim7.holds Tryd.pinned (.plain (OpenSpec.ofChange numberPowersSpec)) numberPowersCard

/-- THE TIED CARD OF 'agraffelaw01.NumberOrders'. -/
def numberOrdersCard : Claim7 := { stood := { row := numberOrdersRow, standIns := [], harness := (true, "0d3e08e15781500d45c7eda445d9b67a9a0ee4587940ca07537d1702629a11cc"), looks := false }, kinds := [], alts := [], laidByText := true, laidKinds := [.data], laidTests := true, laidLooks := .later }
def NumberOrdersCardSaid : Prop := Claim7.holds Tryd.pinned (.plain (OpenSpec.ofChange numberOrdersSpec)) numberOrdersCard

/-- THE TIED CARD OF 'agraffelaw01.NumberOctaves'. -/
def numberOctavesCard : Claim7 := { stood := { row := numberOctavesRow, standIns := [], harness := (true, "0d3e08e15781500d45c7eda445d9b67a9a0ee4587940ca07537d1702629a11cc"), looks := false }, kinds := [], alts := [], laidByText := true, laidKinds := [.data], laidTests := true, laidLooks := .later }
def NumberOctavesCardSaid : Prop := Claim7.holds Tryd.pinned (.plain (OpenSpec.ofChange numberOctavesSpec)) numberOctavesCard

/-- THE TIED CARD OF 'agraffelaw01.NumberEncloses'. -/
def numberEnclosesCard : Claim7 := { stood := { row := numberEnclosesRow, standIns := [], harness := (true, "0d3e08e15781500d45c7eda445d9b67a9a0ee4587940ca07537d1702629a11cc"), looks := false }, kinds := [], alts := [], laidByText := true, laidKinds := [.data], laidTests := true, laidLooks := .later }
def NumberEnclosesCardSaid : Prop := Claim7.holds Tryd.pinned (.plain (OpenSpec.ofChange numberEnclosesSpec)) numberEnclosesCard

/-- THE TIED CARD OF 'agraffelaw01.NumberRanges'. -/
def numberRangesCard : Claim7 := { stood := { row := numberRangesRow, standIns := [], harness := (true, "0d3e08e15781500d45c7eda445d9b67a9a0ee4587940ca07537d1702629a11cc"), looks := false }, kinds := [], alts := [], laidByText := true, laidKinds := [.data], laidTests := true, laidLooks := .later }
def NumberRangesCardSaid : Prop := Claim7.holds Tryd.pinned (.plain (OpenSpec.ofChange numberRangesSpec)) numberRangesCard

/-- THE TIED CARD OF 'agraffelaw01.NumberScaled'. -/
def numberScaledCard : Claim7 := { stood := { row := numberScaledRow, standIns := [], harness := (true, "0d3e08e15781500d45c7eda445d9b67a9a0ee4587940ca07537d1702629a11cc"), looks := false }, kinds := [], alts := [], laidByText := true, laidKinds := [.data], laidTests := true, laidLooks := .later }
def NumberScaledCardSaid : Prop := Claim7.holds Tryd.pinned (.plain (OpenSpec.ofChange numberScaledSpec)) numberScaledCard

/-- THE TIED CARD OF 'agraffelaw01.NumberSystems'. -/
def numberSystemsCard : Claim7 := { stood := { row := numberSystemsRow, standIns := [], harness := (true, "0d3e08e15781500d45c7eda445d9b67a9a0ee4587940ca07537d1702629a11cc"), looks := false }, kinds := [], alts := [], laidByText := true, laidKinds := [.data], laidTests := true, laidLooks := .later }
def NumberSystemsCardSaid : Prop := Claim7.holds Tryd.pinned (.plain (OpenSpec.ofChange numberSystemsSpec)) numberSystemsCard

/-- THE TIED CARD OF 'agraffelaw01.NumberCircles'. -/
def numberCirclesCard : Claim7 := { stood := { row := numberCirclesRow, standIns := [], harness := (true, "0d3e08e15781500d45c7eda445d9b67a9a0ee4587940ca07537d1702629a11cc"), looks := false }, kinds := [], alts := [], laidByText := true, laidKinds := [.data], laidTests := true, laidLooks := .later }
def NumberCirclesCardSaid : Prop := Claim7.holds Tryd.pinned (.plain (OpenSpec.ofChange numberCirclesSpec)) numberCirclesCard

/-- THE SECOND FORM's CARD OF 'agraffelaw01.NumberFracs'. -/
def numberFracsUptoCard : Claim7 := { stood := { row := numberFracsUptoRow, standIns := [], harness := (true, "0d3e08e15781500d45c7eda445d9b67a9a0ee4587940ca07537d1702629a11cc"), looks := false }, kinds := [], alts := [], laidByText := true, laidKinds := [.data], laidTests := true, laidLooks := .later }
def NumberFracsUptoCardSaid : Prop := Claim7.holds Tryd.pinned (.plain (OpenSpec.upto numberFracsSpec)) numberFracsUptoCard

/-- THE SECOND FORM's CARD OF 'agraffelaw01.NumberRounded'. -/
def numberRoundedUptoCard : Claim7 := { stood := { row := numberRoundedUptoRow, standIns := [], harness := (true, "0d3e08e15781500d45c7eda445d9b67a9a0ee4587940ca07537d1702629a11cc"), looks := false }, kinds := [], alts := [], laidByText := true, laidKinds := [.data], laidTests := true, laidLooks := .later }
def NumberRoundedUptoCardSaid : Prop := Claim7.holds Tryd.pinned (.plain (OpenSpec.upto numberRoundedSpec)) numberRoundedUptoCard

/-- THE SECOND FORM's CARD OF 'agraffelaw01.NumberRoots'. -/
def numberRootsUptoCard : Claim7 := { stood := { row := numberRootsUptoRow, standIns := [], harness := (true, "0d3e08e15781500d45c7eda445d9b67a9a0ee4587940ca07537d1702629a11cc"), looks := false }, kinds := [], alts := [], laidByText := true, laidKinds := [.data], laidTests := true, laidLooks := .later }
def NumberRootsUptoCardSaid : Prop := Claim7.holds Tryd.pinned (.plain (OpenSpec.upto numberRootsSpec)) numberRootsUptoCard

/-- THE SECOND FORM's CARD OF 'agraffelaw01.NumberPitches'. -/
def numberPitchesUptoCard : Claim7 := { stood := { row := numberPitchesUptoRow, standIns := [], harness := (true, "0d3e08e15781500d45c7eda445d9b67a9a0ee4587940ca07537d1702629a11cc"), looks := false }, kinds := [], alts := [], laidByText := true, laidKinds := [.data], laidTests := true, laidLooks := .later }
def NumberPitchesUptoCardSaid : Prop := Claim7.holds Tryd.pinned (.plain (OpenSpec.upto numberPitchesSpec)) numberPitchesUptoCard

/-- THE SECOND FORM's CARD OF 'agraffelaw01.NumberPowers'. -/
def numberPowersUptoCard : Claim7 := { stood := { row := numberPowersUptoRow, standIns := [], harness := (true, "0d3e08e15781500d45c7eda445d9b67a9a0ee4587940ca07537d1702629a11cc"), looks := false }, kinds := [], alts := [], laidByText := true, laidKinds := [.data], laidTests := true, laidLooks := .later }
def NumberPowersUptoCardSaid : Prop := Claim7.holds Tryd.pinned (.plain (OpenSpec.upto numberPowersSpec)) numberPowersUptoCard

/-- THE SECOND FORM's CARD OF 'agraffelaw01.NumberOrders'. -/
def numberOrdersUptoCard : Claim7 := { stood := { row := numberOrdersUptoRow, standIns := [], harness := (true, "0d3e08e15781500d45c7eda445d9b67a9a0ee4587940ca07537d1702629a11cc"), looks := false }, kinds := [], alts := [], laidByText := true, laidKinds := [.data], laidTests := true, laidLooks := .later }
def NumberOrdersUptoCardSaid : Prop := Claim7.holds Tryd.pinned (.plain (OpenSpec.upto numberOrdersSpec)) numberOrdersUptoCard

/-- THE SECOND FORM's CARD OF 'agraffelaw01.NumberOctaves'. -/
def numberOctavesUptoCard : Claim7 := { stood := { row := numberOctavesUptoRow, standIns := [], harness := (true, "0d3e08e15781500d45c7eda445d9b67a9a0ee4587940ca07537d1702629a11cc"), looks := false }, kinds := [], alts := [], laidByText := true, laidKinds := [.data], laidTests := true, laidLooks := .later }
def NumberOctavesUptoCardSaid : Prop := Claim7.holds Tryd.pinned (.plain (OpenSpec.upto numberOctavesSpec)) numberOctavesUptoCard

/-- THE SECOND FORM's CARD OF 'agraffelaw01.NumberEncloses'. -/
def numberEnclosesUptoCard : Claim7 := { stood := { row := numberEnclosesUptoRow, standIns := [], harness := (true, "0d3e08e15781500d45c7eda445d9b67a9a0ee4587940ca07537d1702629a11cc"), looks := false }, kinds := [], alts := [], laidByText := true, laidKinds := [.data], laidTests := true, laidLooks := .later }
def NumberEnclosesUptoCardSaid : Prop := Claim7.holds Tryd.pinned (.plain (OpenSpec.upto numberEnclosesSpec)) numberEnclosesUptoCard

/-- THE SECOND FORM's CARD OF 'agraffelaw01.NumberRanges'. -/
def numberRangesUptoCard : Claim7 := { stood := { row := numberRangesUptoRow, standIns := [], harness := (true, "0d3e08e15781500d45c7eda445d9b67a9a0ee4587940ca07537d1702629a11cc"), looks := false }, kinds := [], alts := [], laidByText := true, laidKinds := [.data], laidTests := true, laidLooks := .later }
def NumberRangesUptoCardSaid : Prop := Claim7.holds Tryd.pinned (.plain (OpenSpec.upto numberRangesSpec)) numberRangesUptoCard

/-- THE SECOND FORM's CARD OF 'agraffelaw01.NumberScaled'. -/
def numberScaledUptoCard : Claim7 := { stood := { row := numberScaledUptoRow, standIns := [], harness := (true, "0d3e08e15781500d45c7eda445d9b67a9a0ee4587940ca07537d1702629a11cc"), looks := false }, kinds := [], alts := [], laidByText := true, laidKinds := [.data], laidTests := true, laidLooks := .later }
def NumberScaledUptoCardSaid : Prop := Claim7.holds Tryd.pinned (.plain (OpenSpec.upto numberScaledSpec)) numberScaledUptoCard

/-- THE SECOND FORM's CARD OF 'agraffelaw01.NumberSystems'. -/
def numberSystemsUptoCard : Claim7 := { stood := { row := numberSystemsUptoRow, standIns := [], harness := (true, "0d3e08e15781500d45c7eda445d9b67a9a0ee4587940ca07537d1702629a11cc"), looks := false }, kinds := [], alts := [], laidByText := true, laidKinds := [.data], laidTests := true, laidLooks := .later }
def NumberSystemsUptoCardSaid : Prop := Claim7.holds Tryd.pinned (.plain (OpenSpec.upto numberSystemsSpec)) numberSystemsUptoCard

/-- THE SECOND FORM's CARD OF 'agraffelaw01.NumberCircles'. -/
def numberCirclesUptoCard : Claim7 := { stood := { row := numberCirclesUptoRow, standIns := [], harness := (true, "0d3e08e15781500d45c7eda445d9b67a9a0ee4587940ca07537d1702629a11cc"), looks := false }, kinds := [], alts := [], laidByText := true, laidKinds := [.data], laidTests := true, laidLooks := .later }
def NumberCirclesUptoCardSaid : Prop := Claim7.holds Tryd.pinned (.plain (OpenSpec.upto numberCirclesSpec)) numberCirclesUptoCard
end Rows
end Go.Proofs.YtbagmfnedgjndaaDoor
