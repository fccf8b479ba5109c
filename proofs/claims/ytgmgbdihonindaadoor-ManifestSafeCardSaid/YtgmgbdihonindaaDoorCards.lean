/-
  DERIVED. GIVEN WITH THE SEED: THE CARDS: each row of YtgmgbdihonindaaDoorRows.lean that lists a variable, with what it lists TIED to the program's text (the seventh form; the later family's looks); each row that meets fmt, with fmt's text TOLD by the authors' own Lean function (tested against real Go, not proved from fmt's source: count such statements apart). THE CARD IS WHAT COUNTS. Prove the row's statement (the work); the ties are given (YtgmgbdihonindaaDoorTie.lean); close each card by the builder's one call (the guide's Derived/Test/ToyasCard.lean, 'card_holds'). Laid BY PROGRAM, IN A SANDBOX (cutbox-door.mjs). By AI agents, Wed Nov 11 2026. No macro, syntax, notation, axiom, sorry.
-/
import Derived.Test.YtgmgbdihonindaaDoorRows
import GoSem.ClaimSeven
namespace Go.Proofs.YtgmgbdihonindaaDoor
namespace Rows

/-- THE TIED CARD OF 'holdalllaw13.ManifestBack'. -/
def manifestBackCard : Claim7 := { stood := { row := manifestBackRow, standIns := [], harness := (true, "a84df6f7bb2f30adb7190d8d22f36bc7396cbd792507bc4bc317a58cb33eea30"), looks := true }, kinds := [], alts := [], laidByText := true, laidKinds := [.data, .pinned], laidTests := true, laidLooks := .later }
def ManifestBackCardSaid : Prop := Claim7.holds Tryd.pinned (.plain (OpenSpec.ofChange manifestBackSpec)) manifestBackCard

/-- THE TIED CARD OF 'holdalllaw13.ManifestSafe'. -/
def manifestSafeCard : Claim7 := { stood := { row := manifestSafeRow, standIns := [], harness := (true, "a84df6f7bb2f30adb7190d8d22f36bc7396cbd792507bc4bc317a58cb33eea30"), looks := true }, kinds := [], alts := [], laidByText := true, laidKinds := [.data, .pinned], laidTests := true, laidLooks := .later }
def ManifestSafeCardSaid : Prop := Claim7.holds Tryd.pinned (.plain (OpenSpec.ofChange manifestSafeSpec)) manifestSafeCard

/-- THE TIED CARD OF 'holdalllaw13.ManifestSums'. -/
def manifestSumsCard : Claim7 := { stood := { row := manifestSumsRow, standIns := [], harness := (true, "a84df6f7bb2f30adb7190d8d22f36bc7396cbd792507bc4bc317a58cb33eea30"), looks := true }, kinds := [], alts := [], laidByText := true, laidKinds := [.data, .data, .pinned], laidTests := true, laidLooks := .later }
def ManifestSumsCardSaid : Prop := Claim7.holds Tryd.pinned (.plain (OpenSpec.ofChange manifestSumsSpec)) manifestSumsCard

/-- THE TIED CARD OF 'holdalllaw13.ManifestLines'. -/
def manifestLinesCard : Claim7 := { stood := { row := manifestLinesRow, standIns := [], harness := (true, "a84df6f7bb2f30adb7190d8d22f36bc7396cbd792507bc4bc317a58cb33eea30"), looks := true }, kinds := [], alts := [], laidByText := true, laidKinds := [.data, .pinned], laidTests := true, laidLooks := .later }
def ManifestLinesCardSaid : Prop := Claim7.holds Tryd.pinned (.plain (OpenSpec.ofChange manifestLinesSpec)) manifestLinesCard

/-- THE SECOND FORM's CARD OF 'holdalllaw13.ManifestBack'. -/
def manifestBackUptoCard : Claim7 := { stood := { row := manifestBackUptoRow, standIns := [], harness := (true, "a84df6f7bb2f30adb7190d8d22f36bc7396cbd792507bc4bc317a58cb33eea30"), looks := true }, kinds := [], alts := [], laidByText := true, laidKinds := [.data, .pinned], laidTests := true, laidLooks := .later }
def ManifestBackUptoCardSaid : Prop := Claim7.holds Tryd.pinned (.plain (OpenSpec.upto manifestBackSpec)) manifestBackUptoCard

/-- THE SECOND FORM's CARD OF 'holdalllaw13.ManifestSafe'. -/
def manifestSafeUptoCard : Claim7 := { stood := { row := manifestSafeUptoRow, standIns := [], harness := (true, "a84df6f7bb2f30adb7190d8d22f36bc7396cbd792507bc4bc317a58cb33eea30"), looks := true }, kinds := [], alts := [], laidByText := true, laidKinds := [.data, .pinned], laidTests := true, laidLooks := .later }
def ManifestSafeUptoCardSaid : Prop := Claim7.holds Tryd.pinned (.plain (OpenSpec.upto manifestSafeSpec)) manifestSafeUptoCard

/-- THE SECOND FORM's CARD OF 'holdalllaw13.ManifestSums'. -/
def manifestSumsUptoCard : Claim7 := { stood := { row := manifestSumsUptoRow, standIns := [], harness := (true, "a84df6f7bb2f30adb7190d8d22f36bc7396cbd792507bc4bc317a58cb33eea30"), looks := true }, kinds := [], alts := [], laidByText := true, laidKinds := [.data, .data, .pinned], laidTests := true, laidLooks := .later }
def ManifestSumsUptoCardSaid : Prop := Claim7.holds Tryd.pinned (.plain (OpenSpec.upto manifestSumsSpec)) manifestSumsUptoCard

/-- THE SECOND FORM's CARD OF 'holdalllaw13.ManifestLines'. -/
def manifestLinesUptoCard : Claim7 := { stood := { row := manifestLinesUptoRow, standIns := [], harness := (true, "a84df6f7bb2f30adb7190d8d22f36bc7396cbd792507bc4bc317a58cb33eea30"), looks := true }, kinds := [], alts := [], laidByText := true, laidKinds := [.data, .pinned], laidTests := true, laidLooks := .later }
def ManifestLinesUptoCardSaid : Prop := Claim7.holds Tryd.pinned (.plain (OpenSpec.upto manifestLinesSpec)) manifestLinesUptoCard
end Rows
end Go.Proofs.YtgmgbdihonindaaDoor
