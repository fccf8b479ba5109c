/-
  DERIVED. GIVEN WITH THE SEED: THE CARDS: each row of YtglnifckngcpkaaDoorRows.lean that lists a variable, with what it lists TIED to the program's text (the seventh form; the later family's looks); each row that meets fmt, with fmt's text TOLD by the authors' own Lean function (tested against real Go, not proved from fmt's source: count such statements apart). THE CARD IS WHAT COUNTS. Prove the row's statement (the work); the ties are given (YtglnifckngcpkaaDoorTie.lean); close each card by the builder's one call (the guide's Derived/Test/ToyasCard.lean, 'card_holds'). Laid BY PROGRAM, IN A SANDBOX (cutbox-door.mjs). By AI agents, Wed Nov 11 2026. No macro, syntax, notation, axiom, sorry.
-/
import Derived.Test.YtglnifckngcpkaaDoorRows
import GoSem.ClaimSeven
namespace Go.Proofs.YtglnifckngcpkaaDoor
namespace Rows

/-- THE TIED CARD OF 'holdalllaw09.HeaderEncodes'. -/
def headerEncodesCard : Claim7 := { stood := { row := headerEncodesRow, standIns := [], harness := (true, "01eb34719932231cafe4929a4c89ac5845f34d86569c1e121bd569514327b7bb"), looks := true }, kinds := [], alts := [], laidByText := true, laidKinds := [.data], laidTests := true, laidLooks := .later }
def HeaderEncodesCardSaid : Prop := Claim7.holds Tryd.pinned (.plain (OpenSpec.ofChange headerEncodesSpec)) headerEncodesCard

/-- THE TIED CARD OF 'holdalllaw09.HeaderDecodes'. -/
def headerDecodesCard : Claim7 := { stood := { row := headerDecodesRow, standIns := [], harness := (true, "01eb34719932231cafe4929a4c89ac5845f34d86569c1e121bd569514327b7bb"), looks := true }, kinds := [], alts := [], laidByText := true, laidKinds := [.data], laidTests := true, laidLooks := .later }
def HeaderDecodesCardSaid : Prop := Claim7.holds Tryd.pinned (.plain (OpenSpec.ofChange headerDecodesSpec)) headerDecodesCard

/-- THE TIED CARD OF 'holdalllaw09.HeaderSpoilt'. -/
def headerSpoiltCard : Claim7 := { stood := { row := headerSpoiltRow, standIns := [], harness := (true, "01eb34719932231cafe4929a4c89ac5845f34d86569c1e121bd569514327b7bb"), looks := true }, kinds := [], alts := [], laidByText := true, laidKinds := [.data], laidTests := true, laidLooks := .later }
def HeaderSpoiltCardSaid : Prop := Claim7.holds Tryd.pinned (.plain (OpenSpec.ofChange headerSpoiltSpec)) headerSpoiltCard

/-- THE TIED CARD OF 'holdalllaw09.HeaderBlank'. -/
def headerBlankCard : Claim7 := { stood := { row := headerBlankRow, standIns := [], harness := (true, "01eb34719932231cafe4929a4c89ac5845f34d86569c1e121bd569514327b7bb"), looks := true }, kinds := [], alts := [], laidByText := true, laidKinds := [.data], laidTests := true, laidLooks := .later }
def HeaderBlankCardSaid : Prop := Claim7.holds Tryd.pinned (.plain (OpenSpec.ofChange headerBlankSpec)) headerBlankCard

/-- THE TIED CARD OF 'holdalllaw09.HeaderPlaces'. -/
def headerPlacesCard : Claim7 := { stood := { row := headerPlacesRow, standIns := [], harness := (true, "01eb34719932231cafe4929a4c89ac5845f34d86569c1e121bd569514327b7bb"), looks := true }, kinds := [], alts := [], laidByText := true, laidKinds := [.data], laidTests := true, laidLooks := .later }
def HeaderPlacesCardSaid : Prop := Claim7.holds Tryd.pinned (.plain (OpenSpec.ofChange headerPlacesSpec)) headerPlacesCard

/-- THE TIED CARD OF 'holdalllaw10.PaxEncodes'. -/
def paxEncodesCard : Claim7 := { stood := { row := paxEncodesRow, standIns := [], harness := (true, "01eb34719932231cafe4929a4c89ac5845f34d86569c1e121bd569514327b7bb"), looks := true }, kinds := [], alts := [], laidByText := true, laidKinds := [.data, .data, .data, .sentinel, .sentinel], laidTests := true, laidLooks := .later }
def PaxEncodesCardSaid : Prop := Claim7.holds Tryd.pinned (.plain (OpenSpec.ofChange paxEncodesSpec)) paxEncodesCard

/-- THE TIED CARD OF 'holdalllaw10.PaxDecodes'. -/
def paxDecodesCard : Claim7 := { stood := { row := paxDecodesRow, standIns := [], harness := (true, "01eb34719932231cafe4929a4c89ac5845f34d86569c1e121bd569514327b7bb"), looks := true }, kinds := [], alts := [], laidByText := true, laidKinds := [.data, .data, .data, .sentinel, .sentinel], laidTests := true, laidLooks := .later }
def PaxDecodesCardSaid : Prop := Claim7.holds Tryd.pinned (.plain (OpenSpec.ofChange paxDecodesSpec)) paxDecodesCard

/-- THE TIED CARD OF 'holdalllaw10.PaxBack'. -/
def paxBackCard : Claim7 := { stood := { row := paxBackRow, standIns := [], harness := (true, "01eb34719932231cafe4929a4c89ac5845f34d86569c1e121bd569514327b7bb"), looks := true }, kinds := [], alts := [], laidByText := true, laidKinds := [.data, .data, .data, .sentinel, .sentinel], laidTests := true, laidLooks := .later }
def PaxBackCardSaid : Prop := Claim7.holds Tryd.pinned (.plain (OpenSpec.ofChange paxBackSpec)) paxBackCard

/-- THE TIED CARD OF 'holdalllaw10.PaxParts'. -/
def paxPartsCard : Claim7 := { stood := { row := paxPartsRow, standIns := [], harness := (true, "01eb34719932231cafe4929a4c89ac5845f34d86569c1e121bd569514327b7bb"), looks := true }, kinds := [], alts := [], laidByText := true, laidKinds := [.data, .data, .data, .sentinel, .sentinel], laidTests := true, laidLooks := .later }
def PaxPartsCardSaid : Prop := Claim7.holds Tryd.pinned (.plain (OpenSpec.ofChange paxPartsSpec)) paxPartsCard

/-- THE TIED CARD OF 'holdalllaw10.PaxLast'. -/
def paxLastCard : Claim7 := { stood := { row := paxLastRow, standIns := [], harness := (true, "01eb34719932231cafe4929a4c89ac5845f34d86569c1e121bd569514327b7bb"), looks := true }, kinds := [], alts := [], laidByText := true, laidKinds := [.data, .data, .data, .sentinel, .sentinel], laidTests := true, laidLooks := .later }
def PaxLastCardSaid : Prop := Claim7.holds Tryd.pinned (.plain (OpenSpec.ofChange paxLastSpec)) paxLastCard

/-- THE TIED CARD OF 'holdalllaw10.PaxSizes'. -/
def paxSizesCard : Claim7 := { stood := { row := paxSizesRow, standIns := [], harness := (true, "01eb34719932231cafe4929a4c89ac5845f34d86569c1e121bd569514327b7bb"), looks := true }, kinds := [], alts := [], laidByText := true, laidKinds := [.data, .data, .data, .sentinel, .sentinel], laidTests := true, laidLooks := .later }
def PaxSizesCardSaid : Prop := Claim7.holds Tryd.pinned (.plain (OpenSpec.ofChange paxSizesSpec)) paxSizesCard

/-- THE SECOND FORM's CARD OF 'holdalllaw09.HeaderEncodes'. -/
def headerEncodesUptoCard : Claim7 := { stood := { row := headerEncodesUptoRow, standIns := [], harness := (true, "01eb34719932231cafe4929a4c89ac5845f34d86569c1e121bd569514327b7bb"), looks := true }, kinds := [], alts := [], laidByText := true, laidKinds := [.data], laidTests := true, laidLooks := .later }
def HeaderEncodesUptoCardSaid : Prop := Claim7.holds Tryd.pinned (.plain (OpenSpec.upto headerEncodesSpec)) headerEncodesUptoCard

/-- THE SECOND FORM's CARD OF 'holdalllaw09.HeaderDecodes'. -/
def headerDecodesUptoCard : Claim7 := { stood := { row := headerDecodesUptoRow, standIns := [], harness := (true, "01eb34719932231cafe4929a4c89ac5845f34d86569c1e121bd569514327b7bb"), looks := true }, kinds := [], alts := [], laidByText := true, laidKinds := [.data], laidTests := true, laidLooks := .later }
def HeaderDecodesUptoCardSaid : Prop := Claim7.holds Tryd.pinned (.plain (OpenSpec.upto headerDecodesSpec)) headerDecodesUptoCard

/-- THE SECOND FORM's CARD OF 'holdalllaw09.HeaderSpoilt'. -/
def headerSpoiltUptoCard : Claim7 := { stood := { row := headerSpoiltUptoRow, standIns := [], harness := (true, "01eb34719932231cafe4929a4c89ac5845f34d86569c1e121bd569514327b7bb"), looks := true }, kinds := [], alts := [], laidByText := true, laidKinds := [.data], laidTests := true, laidLooks := .later }
def HeaderSpoiltUptoCardSaid : Prop := Claim7.holds Tryd.pinned (.plain (OpenSpec.upto headerSpoiltSpec)) headerSpoiltUptoCard

/-- THE SECOND FORM's CARD OF 'holdalllaw09.HeaderBlank'. -/
def headerBlankUptoCard : Claim7 := { stood := { row := headerBlankUptoRow, standIns := [], harness := (true, "01eb34719932231cafe4929a4c89ac5845f34d86569c1e121bd569514327b7bb"), looks := true }, kinds := [], alts := [], laidByText := true, laidKinds := [.data], laidTests := true, laidLooks := .later }
def HeaderBlankUptoCardSaid : Prop := Claim7.holds Tryd.pinned (.plain (OpenSpec.upto headerBlankSpec)) headerBlankUptoCard

/-- THE SECOND FORM's CARD OF 'holdalllaw09.HeaderPlaces'. -/
def headerPlacesUptoCard : Claim7 := { stood := { row := headerPlacesUptoRow, standIns := [], harness := (true, "01eb34719932231cafe4929a4c89ac5845f34d86569c1e121bd569514327b7bb"), looks := true }, kinds := [], alts := [], laidByText := true, laidKinds := [.data], laidTests := true, laidLooks := .later }
def HeaderPlacesUptoCardSaid : Prop := Claim7.holds Tryd.pinned (.plain (OpenSpec.upto headerPlacesSpec)) headerPlacesUptoCard

/-- THE SECOND FORM's CARD OF 'holdalllaw10.PaxEncodes'. -/
def paxEncodesUptoCard : Claim7 := { stood := { row := paxEncodesUptoRow, standIns := [], harness := (true, "01eb34719932231cafe4929a4c89ac5845f34d86569c1e121bd569514327b7bb"), looks := true }, kinds := [], alts := [], laidByText := true, laidKinds := [.data, .data, .data, .sentinel, .sentinel], laidTests := true, laidLooks := .later }
def PaxEncodesUptoCardSaid : Prop := Claim7.holds Tryd.pinned (.plain (OpenSpec.upto paxEncodesSpec)) paxEncodesUptoCard

/-- THE SECOND FORM's CARD OF 'holdalllaw10.PaxDecodes'. -/
def paxDecodesUptoCard : Claim7 := { stood := { row := paxDecodesUptoRow, standIns := [], harness := (true, "01eb34719932231cafe4929a4c89ac5845f34d86569c1e121bd569514327b7bb"), looks := true }, kinds := [], alts := [], laidByText := true, laidKinds := [.data, .data, .data, .sentinel, .sentinel], laidTests := true, laidLooks := .later }
def PaxDecodesUptoCardSaid : Prop := Claim7.holds Tryd.pinned (.plain (OpenSpec.upto paxDecodesSpec)) paxDecodesUptoCard

/-- THE SECOND FORM's CARD OF 'holdalllaw10.PaxBack'. -/
def paxBackUptoCard : Claim7 := { stood := { row := paxBackUptoRow, standIns := [], harness := (true, "01eb34719932231cafe4929a4c89ac5845f34d86569c1e121bd569514327b7bb"), looks := true }, kinds := [], alts := [], laidByText := true, laidKinds := [.data, .data, .data, .sentinel, .sentinel], laidTests := true, laidLooks := .later }
def PaxBackUptoCardSaid : Prop := Claim7.holds Tryd.pinned (.plain (OpenSpec.upto paxBackSpec)) paxBackUptoCard

/-- THE SECOND FORM's CARD OF 'holdalllaw10.PaxParts'. -/
def paxPartsUptoCard : Claim7 := { stood := { row := paxPartsUptoRow, standIns := [], harness := (true, "01eb34719932231cafe4929a4c89ac5845f34d86569c1e121bd569514327b7bb"), looks := true }, kinds := [], alts := [], laidByText := true, laidKinds := [.data, .data, .data, .sentinel, .sentinel], laidTests := true, laidLooks := .later }
def PaxPartsUptoCardSaid : Prop := Claim7.holds Tryd.pinned (.plain (OpenSpec.upto paxPartsSpec)) paxPartsUptoCard

/-- THE SECOND FORM's CARD OF 'holdalllaw10.PaxLast'. -/
def paxLastUptoCard : Claim7 := { stood := { row := paxLastUptoRow, standIns := [], harness := (true, "01eb34719932231cafe4929a4c89ac5845f34d86569c1e121bd569514327b7bb"), looks := true }, kinds := [], alts := [], laidByText := true, laidKinds := [.data, .data, .data, .sentinel, .sentinel], laidTests := true, laidLooks := .later }
def PaxLastUptoCardSaid : Prop := Claim7.holds Tryd.pinned (.plain (OpenSpec.upto paxLastSpec)) paxLastUptoCard

/-- THE SECOND FORM's CARD OF 'holdalllaw10.PaxSizes'. -/
def paxSizesUptoCard : Claim7 := { stood := { row := paxSizesUptoRow, standIns := [], harness := (true, "01eb34719932231cafe4929a4c89ac5845f34d86569c1e121bd569514327b7bb"), looks := true }, kinds := [], alts := [], laidByText := true, laidKinds := [.data, .data, .data, .sentinel, .sentinel], laidTests := true, laidLooks := .later }
def PaxSizesUptoCardSaid : Prop := Claim7.holds Tryd.pinned (.plain (OpenSpec.upto paxSizesSpec)) paxSizesUptoCard
end Rows
end Go.Proofs.YtglnifckngcpkaaDoor
