/-
  DERIVED. GIVEN WITH THE SEED: THE CARDS: each row of YtnjlifmjjihahaaDoorRows.lean that lists a variable, with what it lists TIED to the program's text (the seventh form; the later family's looks); each row that meets fmt, with fmt's text TOLD by the authors' own Lean function (tested against real Go, not proved from fmt's source: count such statements apart). THE CARD IS WHAT COUNTS. Prove the row's statement (the work); the ties are given (YtnjlifmjjihahaaDoorTie.lean); close each card by the builder's one call (the guide's Derived/Test/ToyasCard.lean, 'card_holds'). Laid BY PROGRAM, IN A SANDBOX (cutbox-door.mjs). By AI agents, Wed Nov 11 2026. No macro, syntax, notation, axiom, sorry.
-/
import Derived.Test.YtnjlifmjjihahaaDoorRows
import GoSem.ClaimSeven
namespace Go.Proofs.YtnjlifmjjihahaaDoor
namespace Rows

/-- THE TIED CARD OF 'agraffelaw07.UpkeepPasses'. -/
def upkeepPassesCard : Claim7 := { stood := { row := upkeepPassesRow, standIns := [], harness := (true, "5241f71815dbdb26795f2145b1a1397dd180e979556bfd2d1173f08c87b16abe"), looks := false }, kinds := [], alts := [], laidByText := true, laidKinds := [.data], laidTests := true, laidLooks := .later }
def UpkeepPassesCardSaid : Prop := Claim7.holds Tryd.pinned (.plain (OpenSpec.ofChange upkeepPassesSpec)) upkeepPassesCard

/-- THE TIED CARD OF 'agraffelaw07.UpkeepOverpulls'. -/
def upkeepOverpullsCard : Claim7 := { stood := { row := upkeepOverpullsRow, standIns := [], harness := (true, "5241f71815dbdb26795f2145b1a1397dd180e979556bfd2d1173f08c87b16abe"), looks := false }, kinds := [], alts := [], laidByText := true, laidKinds := [.data], laidTests := true, laidLooks := .later }
def UpkeepOverpullsCardSaid : Prop := Claim7.holds Tryd.pinned (.plain (OpenSpec.ofChange upkeepOverpullsSpec)) upkeepOverpullsCard

/-- THE TIED CARD OF 'agraffelaw07.UpkeepPins'. -/
def upkeepPinsCard : Claim7 := { stood := { row := upkeepPinsRow, standIns := [], harness := (true, "5241f71815dbdb26795f2145b1a1397dd180e979556bfd2d1173f08c87b16abe"), looks := false }, kinds := [], alts := [], laidByText := true, laidKinds := [.data], laidTests := true, laidLooks := .later }
def UpkeepPinsCardSaid : Prop := Claim7.holds Tryd.pinned (.plain (OpenSpec.ofChange upkeepPinsSpec)) upkeepPinsCard

/-- THE TIED CARD OF 'agraffelaw07.UpkeepRaises'. -/
def upkeepRaisesCard : Claim7 := { stood := { row := upkeepRaisesRow, standIns := [], harness := (true, "5241f71815dbdb26795f2145b1a1397dd180e979556bfd2d1173f08c87b16abe"), looks := false }, kinds := [], alts := [], laidByText := true, laidKinds := [.data], laidTests := true, laidLooks := .later }
def UpkeepRaisesCardSaid : Prop := Claim7.holds Tryd.pinned (.plain (OpenSpec.ofChange upkeepRaisesSpec)) upkeepRaisesCard

/-- THE TIED CARD OF 'agraffelaw07.UpkeepClimates'. -/
def upkeepClimatesCard : Claim7 := { stood := { row := upkeepClimatesRow, standIns := [], harness := (true, "5241f71815dbdb26795f2145b1a1397dd180e979556bfd2d1173f08c87b16abe"), looks := false }, kinds := [], alts := [], laidByText := true, laidKinds := [.data], laidTests := true, laidLooks := .later }
def UpkeepClimatesCardSaid : Prop := Claim7.holds Tryd.pinned (.plain (OpenSpec.ofChange upkeepClimatesSpec)) upkeepClimatesCard

/-- THE TIED CARD OF 'agraffelaw07.UpkeepDrifts'. -/
def upkeepDriftsCard : Claim7 := { stood := { row := upkeepDriftsRow, standIns := [], harness := (true, "5241f71815dbdb26795f2145b1a1397dd180e979556bfd2d1173f08c87b16abe"), looks := false }, kinds := [], alts := [], laidByText := true, laidKinds := [.data], laidTests := true, laidLooks := .later }
def UpkeepDriftsCardSaid : Prop := Claim7.holds Tryd.pinned (.plain (OpenSpec.ofChange upkeepDriftsSpec)) upkeepDriftsCard

/-- THE TIED CARD OF 'agraffelaw07.UpkeepMonotone'. -/
def upkeepMonotoneCard : Claim7 := { stood := { row := upkeepMonotoneRow, standIns := [], harness := (true, "5241f71815dbdb26795f2145b1a1397dd180e979556bfd2d1173f08c87b16abe"), looks := false }, kinds := [], alts := [], laidByText := true, laidKinds := [.data], laidTests := true, laidLooks := .later }
def UpkeepMonotoneCardSaid : Prop := Claim7.holds Tryd.pinned (.plain (OpenSpec.ofChange upkeepMonotoneSpec)) upkeepMonotoneCard

/-- THE TIED CARD OF 'agraffelaw07.UpkeepSignatures'. -/
def upkeepSignaturesCard : Claim7 := { stood := { row := upkeepSignaturesRow, standIns := [], harness := (true, "5241f71815dbdb26795f2145b1a1397dd180e979556bfd2d1173f08c87b16abe"), looks := false }, kinds := [], alts := [], laidByText := true, laidKinds := [.data, .data], laidTests := true, laidLooks := .later }
def UpkeepSignaturesCardSaid : Prop := Claim7.holds Tryd.pinned (.plain (OpenSpec.ofChange upkeepSignaturesSpec)) upkeepSignaturesCard

/-- THE TIED CARD OF 'agraffelaw07.UpkeepExplains'. -/
def upkeepExplainsCard : Claim7 := { stood := { row := upkeepExplainsRow, standIns := [], harness := (true, "5241f71815dbdb26795f2145b1a1397dd180e979556bfd2d1173f08c87b16abe"), looks := false }, kinds := [], alts := [], laidByText := true, laidKinds := [.data], laidTests := true, laidLooks := .later }
def UpkeepExplainsCardSaid : Prop := Claim7.holds Tryd.pinned (.plain (OpenSpec.ofChange upkeepExplainsSpec)) upkeepExplainsCard

/-- THE TIED CARD OF 'agraffelaw07.UpkeepWrong'. -/
def upkeepWrongCard : Claim7 := { stood := { row := upkeepWrongRow, standIns := [], harness := (true, "5241f71815dbdb26795f2145b1a1397dd180e979556bfd2d1173f08c87b16abe"), looks := false }, kinds := [], alts := [], laidByText := true, laidKinds := [.data, .data], laidTests := true, laidLooks := .later }
def UpkeepWrongCardSaid : Prop := Claim7.holds Tryd.pinned (.plain (OpenSpec.ofChange upkeepWrongSpec)) upkeepWrongCard

/-- THE TIED CARD OF 'agraffelaw07.UpkeepHears'. -/
def upkeepHearsCard : Claim7 := { stood := { row := upkeepHearsRow, standIns := [], harness := (true, "5241f71815dbdb26795f2145b1a1397dd180e979556bfd2d1173f08c87b16abe"), looks := false }, kinds := [], alts := [], laidByText := true, laidKinds := [.data], laidTests := true, laidLooks := .later }
def UpkeepHearsCardSaid : Prop := Claim7.holds Tryd.pinned (.plain (OpenSpec.ofChange upkeepHearsSpec)) upkeepHearsCard

/-- THE TIED CARD OF 'agraffelaw07.UpkeepLeast'. -/
def upkeepLeastCard : Claim7 := { stood := { row := upkeepLeastRow, standIns := [], harness := (true, "5241f71815dbdb26795f2145b1a1397dd180e979556bfd2d1173f08c87b16abe"), looks := false }, kinds := [], alts := [], laidByText := true, laidKinds := [.data], laidTests := true, laidLooks := .later }
def UpkeepLeastCardSaid : Prop := Claim7.holds Tryd.pinned (.plain (OpenSpec.ofChange upkeepLeastSpec)) upkeepLeastCard

/-- THE SECOND FORM's CARD OF 'agraffelaw07.UpkeepPasses'. -/
def upkeepPassesUptoCard : Claim7 := { stood := { row := upkeepPassesUptoRow, standIns := [], harness := (true, "5241f71815dbdb26795f2145b1a1397dd180e979556bfd2d1173f08c87b16abe"), looks := false }, kinds := [], alts := [], laidByText := true, laidKinds := [.data], laidTests := true, laidLooks := .later }
def UpkeepPassesUptoCardSaid : Prop := Claim7.holds Tryd.pinned (.plain (OpenSpec.upto upkeepPassesSpec)) upkeepPassesUptoCard

/-- THE SECOND FORM's CARD OF 'agraffelaw07.UpkeepOverpulls'. -/
def upkeepOverpullsUptoCard : Claim7 := { stood := { row := upkeepOverpullsUptoRow, standIns := [], harness := (true, "5241f71815dbdb26795f2145b1a1397dd180e979556bfd2d1173f08c87b16abe"), looks := false }, kinds := [], alts := [], laidByText := true, laidKinds := [.data], laidTests := true, laidLooks := .later }
def UpkeepOverpullsUptoCardSaid : Prop := Claim7.holds Tryd.pinned (.plain (OpenSpec.upto upkeepOverpullsSpec)) upkeepOverpullsUptoCard

/-- THE SECOND FORM's CARD OF 'agraffelaw07.UpkeepPins'. -/
def upkeepPinsUptoCard : Claim7 := { stood := { row := upkeepPinsUptoRow, standIns := [], harness := (true, "5241f71815dbdb26795f2145b1a1397dd180e979556bfd2d1173f08c87b16abe"), looks := false }, kinds := [], alts := [], laidByText := true, laidKinds := [.data], laidTests := true, laidLooks := .later }
def UpkeepPinsUptoCardSaid : Prop := Claim7.holds Tryd.pinned (.plain (OpenSpec.upto upkeepPinsSpec)) upkeepPinsUptoCard

/-- THE SECOND FORM's CARD OF 'agraffelaw07.UpkeepRaises'. -/
def upkeepRaisesUptoCard : Claim7 := { stood := { row := upkeepRaisesUptoRow, standIns := [], harness := (true, "5241f71815dbdb26795f2145b1a1397dd180e979556bfd2d1173f08c87b16abe"), looks := false }, kinds := [], alts := [], laidByText := true, laidKinds := [.data], laidTests := true, laidLooks := .later }
def UpkeepRaisesUptoCardSaid : Prop := Claim7.holds Tryd.pinned (.plain (OpenSpec.upto upkeepRaisesSpec)) upkeepRaisesUptoCard

/-- THE SECOND FORM's CARD OF 'agraffelaw07.UpkeepClimates'. -/
def upkeepClimatesUptoCard : Claim7 := { stood := { row := upkeepClimatesUptoRow, standIns := [], harness := (true, "5241f71815dbdb26795f2145b1a1397dd180e979556bfd2d1173f08c87b16abe"), looks := false }, kinds := [], alts := [], laidByText := true, laidKinds := [.data], laidTests := true, laidLooks := .later }
def UpkeepClimatesUptoCardSaid : Prop := Claim7.holds Tryd.pinned (.plain (OpenSpec.upto upkeepClimatesSpec)) upkeepClimatesUptoCard

/-- THE SECOND FORM's CARD OF 'agraffelaw07.UpkeepDrifts'. -/
def upkeepDriftsUptoCard : Claim7 := { stood := { row := upkeepDriftsUptoRow, standIns := [], harness := (true, "5241f71815dbdb26795f2145b1a1397dd180e979556bfd2d1173f08c87b16abe"), looks := false }, kinds := [], alts := [], laidByText := true, laidKinds := [.data], laidTests := true, laidLooks := .later }
def UpkeepDriftsUptoCardSaid : Prop := Claim7.holds Tryd.pinned (.plain (OpenSpec.upto upkeepDriftsSpec)) upkeepDriftsUptoCard

/-- THE SECOND FORM's CARD OF 'agraffelaw07.UpkeepMonotone'. -/
def upkeepMonotoneUptoCard : Claim7 := { stood := { row := upkeepMonotoneUptoRow, standIns := [], harness := (true, "5241f71815dbdb26795f2145b1a1397dd180e979556bfd2d1173f08c87b16abe"), looks := false }, kinds := [], alts := [], laidByText := true, laidKinds := [.data], laidTests := true, laidLooks := .later }
def UpkeepMonotoneUptoCardSaid : Prop := Claim7.holds Tryd.pinned (.plain (OpenSpec.upto upkeepMonotoneSpec)) upkeepMonotoneUptoCard

/-- THE SECOND FORM's CARD OF 'agraffelaw07.UpkeepSignatures'. -/
def upkeepSignaturesUptoCard : Claim7 := { stood := { row := upkeepSignaturesUptoRow, standIns := [], harness := (true, "5241f71815dbdb26795f2145b1a1397dd180e979556bfd2d1173f08c87b16abe"), looks := false }, kinds := [], alts := [], laidByText := true, laidKinds := [.data, .data], laidTests := true, laidLooks := .later }
def UpkeepSignaturesUptoCardSaid : Prop := Claim7.holds Tryd.pinned (.plain (OpenSpec.upto upkeepSignaturesSpec)) upkeepSignaturesUptoCard

/-- THE SECOND FORM's CARD OF 'agraffelaw07.UpkeepExplains'. -/
def upkeepExplainsUptoCard : Claim7 := { stood := { row := upkeepExplainsUptoRow, standIns := [], harness := (true, "5241f71815dbdb26795f2145b1a1397dd180e979556bfd2d1173f08c87b16abe"), looks := false }, kinds := [], alts := [], laidByText := true, laidKinds := [.data], laidTests := true, laidLooks := .later }
def UpkeepExplainsUptoCardSaid : Prop := Claim7.holds Tryd.pinned (.plain (OpenSpec.upto upkeepExplainsSpec)) upkeepExplainsUptoCard

/-- THE SECOND FORM's CARD OF 'agraffelaw07.UpkeepWrong'. -/
def upkeepWrongUptoCard : Claim7 := { stood := { row := upkeepWrongUptoRow, standIns := [], harness := (true, "5241f71815dbdb26795f2145b1a1397dd180e979556bfd2d1173f08c87b16abe"), looks := false }, kinds := [], alts := [], laidByText := true, laidKinds := [.data, .data], laidTests := true, laidLooks := .later }
def UpkeepWrongUptoCardSaid : Prop := Claim7.holds Tryd.pinned (.plain (OpenSpec.upto upkeepWrongSpec)) upkeepWrongUptoCard

/-- THE SECOND FORM's CARD OF 'agraffelaw07.UpkeepHears'. -/
def upkeepHearsUptoCard : Claim7 := { stood := { row := upkeepHearsUptoRow, standIns := [], harness := (true, "5241f71815dbdb26795f2145b1a1397dd180e979556bfd2d1173f08c87b16abe"), looks := false }, kinds := [], alts := [], laidByText := true, laidKinds := [.data], laidTests := true, laidLooks := .later }
def UpkeepHearsUptoCardSaid : Prop := Claim7.holds Tryd.pinned (.plain (OpenSpec.upto upkeepHearsSpec)) upkeepHearsUptoCard

/-- THE SECOND FORM's CARD OF 'agraffelaw07.UpkeepLeast'. -/
def upkeepLeastUptoCard : Claim7 := { stood := { row := upkeepLeastUptoRow, standIns := [], harness := (true, "5241f71815dbdb26795f2145b1a1397dd180e979556bfd2d1173f08c87b16abe"), looks := false }, kinds := [], alts := [], laidByText := true, laidKinds := [.data], laidTests := true, laidLooks := .later }
def UpkeepLeastUptoCardSaid : Prop := Claim7.holds Tryd.pinned (.plain (OpenSpec.upto upkeepLeastSpec)) upkeepLeastUptoCard
end Rows
end Go.Proofs.YtnjlifmjjihahaaDoor
