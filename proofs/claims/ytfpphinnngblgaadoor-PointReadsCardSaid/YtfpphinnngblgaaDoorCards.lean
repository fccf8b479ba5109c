/-
  DERIVED. GIVEN WITH THE SEED: THE CARDS: each row of YtfpphinnngblgaaDoorRows.lean that lists a variable, with what it lists TIED to the program's text (the seventh form; the later family's looks); each row that meets fmt, with fmt's text TOLD by the authors' own Lean function (tested against real Go, not proved from fmt's source: count such statements apart). THE CARD IS WHAT COUNTS. Prove the row's statement (the work); the ties are given (YtfpphinnngblgaaDoorTie.lean); close each card by the builder's one call (the guide's Derived/Test/ToyasCard.lean, 'card_holds'). Laid BY PROGRAM, IN A SANDBOX (cutbox-door.mjs). By AI agents, Wed Nov 11 2026. No macro, syntax, notation, axiom, sorry.
-/
import Derived.Test.YtfpphinnngblgaaDoorRows
import GoSem.ClaimSeven
namespace Go.Proofs.YtfpphinnngblgaaDoor
namespace Rows

/-- THE TIED CARD OF 'holdalllaw05.PointReads'. -/
def pointReadsCard : Claim7 := { stood := { row := pointReadsRow, standIns := [], harness := (true, "fc2542975b301c68a361b8d8db791a19a70359d4a606d8fae6164062f6963a2a"), looks := false }, kinds := [], alts := [], laidByText := true, laidKinds := [.data], laidTests := true, laidLooks := .later }
def PointReadsCardSaid : Prop := Claim7.holds Tryd.pinned (.plain (OpenSpec.ofChange pointReadsSpec)) pointReadsCard

/-- THE TIED CARD OF 'holdalllaw05.PointTells'. -/
def pointTellsCard : Claim7 := { stood := { row := pointTellsRow, standIns := [], harness := (true, "fc2542975b301c68a361b8d8db791a19a70359d4a606d8fae6164062f6963a2a"), looks := false }, kinds := [], alts := [], laidByText := true, laidKinds := [.data], laidTests := true, laidLooks := .later }
def PointTellsCardSaid : Prop := Claim7.holds Tryd.pinned (.plain (OpenSpec.ofChange pointTellsSpec)) pointTellsCard

/-- THE TIED CARD OF 'holdalllaw05.PointTimes'. -/
def pointTimesCard : Claim7 := { stood := { row := pointTimesRow, standIns := [], harness := (true, "fc2542975b301c68a361b8d8db791a19a70359d4a606d8fae6164062f6963a2a"), looks := false }, kinds := [], alts := [], laidByText := true, laidKinds := [.data], laidTests := true, laidLooks := .later }
def PointTimesCardSaid : Prop := Claim7.holds Tryd.pinned (.plain (OpenSpec.ofChange pointTimesSpec)) pointTimesCard

/-- THE TIED CARD OF 'holdalllaw05.PointRules'. -/
def pointRulesCard : Claim7 := { stood := { row := pointRulesRow, standIns := [], harness := (true, "fc2542975b301c68a361b8d8db791a19a70359d4a606d8fae6164062f6963a2a"), looks := false }, kinds := [], alts := [], laidByText := true, laidKinds := [.data], laidTests := true, laidLooks := .later }
def PointRulesCardSaid : Prop := Claim7.holds Tryd.pinned (.plain (OpenSpec.ofChange pointRulesSpec)) pointRulesCard

/-- THE TIED CARD OF 'holdalllaw05.PointSpreads'. -/
def pointSpreadsCard : Claim7 := { stood := { row := pointSpreadsRow, standIns := [], harness := (true, "fc2542975b301c68a361b8d8db791a19a70359d4a606d8fae6164062f6963a2a"), looks := false }, kinds := [], alts := [], laidByText := true, laidKinds := [.data], laidTests := true, laidLooks := .later }
def PointSpreadsCardSaid : Prop := Claim7.holds Tryd.pinned (.plain (OpenSpec.ofChange pointSpreadsSpec)) pointSpreadsCard

/-- THE TIED CARD OF 'holdalllaw05.PointApart'. -/
def pointApartCard : Claim7 := { stood := { row := pointApartRow, standIns := [], harness := (true, "fc2542975b301c68a361b8d8db791a19a70359d4a606d8fae6164062f6963a2a"), looks := false }, kinds := [], alts := [], laidByText := true, laidKinds := [.data], laidTests := true, laidLooks := .later }
def PointApartCardSaid : Prop := Claim7.holds Tryd.pinned (.plain (OpenSpec.ofChange pointApartSpec)) pointApartCard

/-- THE TIED CARD OF 'holdalllaw05.PointSmall'. -/
def pointSmallCard : Claim7 := { stood := { row := pointSmallRow, standIns := [], harness := (true, "fc2542975b301c68a361b8d8db791a19a70359d4a606d8fae6164062f6963a2a"), looks := false }, kinds := [], alts := [], laidByText := true, laidKinds := [.data], laidTests := true, laidLooks := .later }
def PointSmallCardSaid : Prop := Claim7.holds Tryd.pinned (.plain (OpenSpec.ofChange pointSmallSpec)) pointSmallCard

/-- THE SECOND FORM's CARD OF 'holdalllaw05.PointReads'. -/
def pointReadsUptoCard : Claim7 := { stood := { row := pointReadsUptoRow, standIns := [], harness := (true, "fc2542975b301c68a361b8d8db791a19a70359d4a606d8fae6164062f6963a2a"), looks := false }, kinds := [], alts := [], laidByText := true, laidKinds := [.data], laidTests := true, laidLooks := .later }
def PointReadsUptoCardSaid : Prop := Claim7.holds Tryd.pinned (.plain (OpenSpec.upto pointReadsSpec)) pointReadsUptoCard

/-- THE SECOND FORM's CARD OF 'holdalllaw05.PointTells'. -/
def pointTellsUptoCard : Claim7 := { stood := { row := pointTellsUptoRow, standIns := [], harness := (true, "fc2542975b301c68a361b8d8db791a19a70359d4a606d8fae6164062f6963a2a"), looks := false }, kinds := [], alts := [], laidByText := true, laidKinds := [.data], laidTests := true, laidLooks := .later }
def PointTellsUptoCardSaid : Prop := Claim7.holds Tryd.pinned (.plain (OpenSpec.upto pointTellsSpec)) pointTellsUptoCard

/-- THE SECOND FORM's CARD OF 'holdalllaw05.PointTimes'. -/
def pointTimesUptoCard : Claim7 := { stood := { row := pointTimesUptoRow, standIns := [], harness := (true, "fc2542975b301c68a361b8d8db791a19a70359d4a606d8fae6164062f6963a2a"), looks := false }, kinds := [], alts := [], laidByText := true, laidKinds := [.data], laidTests := true, laidLooks := .later }
def PointTimesUptoCardSaid : Prop := Claim7.holds Tryd.pinned (.plain (OpenSpec.upto pointTimesSpec)) pointTimesUptoCard

/-- THE SECOND FORM's CARD OF 'holdalllaw05.PointRules'. -/
def pointRulesUptoCard : Claim7 := { stood := { row := pointRulesUptoRow, standIns := [], harness := (true, "fc2542975b301c68a361b8d8db791a19a70359d4a606d8fae6164062f6963a2a"), looks := false }, kinds := [], alts := [], laidByText := true, laidKinds := [.data], laidTests := true, laidLooks := .later }
def PointRulesUptoCardSaid : Prop := Claim7.holds Tryd.pinned (.plain (OpenSpec.upto pointRulesSpec)) pointRulesUptoCard

/-- THE SECOND FORM's CARD OF 'holdalllaw05.PointSpreads'. -/
def pointSpreadsUptoCard : Claim7 := { stood := { row := pointSpreadsUptoRow, standIns := [], harness := (true, "fc2542975b301c68a361b8d8db791a19a70359d4a606d8fae6164062f6963a2a"), looks := false }, kinds := [], alts := [], laidByText := true, laidKinds := [.data], laidTests := true, laidLooks := .later }
def PointSpreadsUptoCardSaid : Prop := Claim7.holds Tryd.pinned (.plain (OpenSpec.upto pointSpreadsSpec)) pointSpreadsUptoCard

/-- THE SECOND FORM's CARD OF 'holdalllaw05.PointApart'. -/
def pointApartUptoCard : Claim7 := { stood := { row := pointApartUptoRow, standIns := [], harness := (true, "fc2542975b301c68a361b8d8db791a19a70359d4a606d8fae6164062f6963a2a"), looks := false }, kinds := [], alts := [], laidByText := true, laidKinds := [.data], laidTests := true, laidLooks := .later }
def PointApartUptoCardSaid : Prop := Claim7.holds Tryd.pinned (.plain (OpenSpec.upto pointApartSpec)) pointApartUptoCard

/-- THE SECOND FORM's CARD OF 'holdalllaw05.PointSmall'. -/
def pointSmallUptoCard : Claim7 := { stood := { row := pointSmallUptoRow, standIns := [], harness := (true, "fc2542975b301c68a361b8d8db791a19a70359d4a606d8fae6164062f6963a2a"), looks := false }, kinds := [], alts := [], laidByText := true, laidKinds := [.data], laidTests := true, laidLooks := .later }
def PointSmallUptoCardSaid : Prop := Claim7.holds Tryd.pinned (.plain (OpenSpec.upto pointSmallSpec)) pointSmallUptoCard
end Rows
end Go.Proofs.YtfpphinnngblgaaDoor
