/-
  DERIVED. GIVEN WITH THE SEED: THE CARDS: each row of YtpbenhfnebgbiaaDoorRows.lean that lists a variable, with what it lists TIED to the program's text (the seventh form; the later family's looks); each row that meets fmt, with fmt's text TOLD by the authors' own Lean function (tested against real Go, not proved from fmt's source: count such statements apart). THE CARD IS WHAT COUNTS. Prove the row's statement (the work); the ties are given (YtpbenhfnebgbiaaDoorTie.lean); close each card by the builder's one call (the guide's Derived/Test/ToyasCard.lean, 'card_holds'). Laid BY PROGRAM, IN A SANDBOX (cutbox-door.mjs). By AI agents, Wed Nov 11 2026. No macro, syntax, notation, axiom, sorry.
-/
import Derived.Test.YtpbenhfnebgbiaaDoorRows
import GoSem.ClaimSeven
namespace Go.Proofs.YtpbenhfnebgbiaaDoor
namespace Rows

/-- THE TIED CARD OF 'holdalllaw20.SolveTells'. -/
def solveTellsCard : Claim7 := { stood := { row := solveTellsRow, standIns := [], harness := (true, "7b42b034821e04edba79e7a28f1079f0875f1fb3f748759e9e63358e924ebbef"), looks := false }, kinds := [], alts := [], laidByText := true, laidKinds := [.data, .pinned], laidTests := true, laidLooks := .later }
def SolveTellsCardSaid : Prop := Claim7.holds Tryd.pinned (.plain (OpenSpec.ofChange solveTellsSpec)) solveTellsCard

/-- THE TIED CARD OF 'holdalllaw20.SolveMore'. -/
def solveMoreCard : Claim7 := { stood := { row := solveMoreRow, standIns := [], harness := (true, "7b42b034821e04edba79e7a28f1079f0875f1fb3f748759e9e63358e924ebbef"), looks := false }, kinds := [], alts := [], laidByText := true, laidKinds := [.data, .pinned], laidTests := true, laidLooks := .later }
def SolveMoreCardSaid : Prop := Claim7.holds Tryd.pinned (.plain (OpenSpec.ofChange solveMoreSpec)) solveMoreCard

/-- THE TIED CARD OF 'holdalllaw20.SolveUsers'. -/
def solveUsersCard : Claim7 := { stood := { row := solveUsersRow, standIns := [], harness := (true, "7b42b034821e04edba79e7a28f1079f0875f1fb3f748759e9e63358e924ebbef"), looks := false }, kinds := [], alts := [], laidByText := true, laidKinds := [.data, .pinned], laidTests := true, laidLooks := .later }
def SolveUsersCardSaid : Prop := Claim7.holds Tryd.pinned (.plain (OpenSpec.ofChange solveUsersSpec)) solveUsersCard

/-- THE TIED CARD OF 'holdalllaw20.SolveOrder'. -/
def solveOrderCard : Claim7 := { stood := { row := solveOrderRow, standIns := [], harness := (true, "7b42b034821e04edba79e7a28f1079f0875f1fb3f748759e9e63358e924ebbef"), looks := false }, kinds := [], alts := [], laidByText := true, laidKinds := [.data, .pinned], laidTests := true, laidLooks := .later }
def SolveOrderCardSaid : Prop := Claim7.holds Tryd.pinned (.plain (OpenSpec.ofChange solveOrderSpec)) solveOrderCard

/-- THE SECOND FORM's CARD OF 'holdalllaw20.SolveTells'. -/
def solveTellsUptoCard : Claim7 := { stood := { row := solveTellsUptoRow, standIns := [], harness := (true, "7b42b034821e04edba79e7a28f1079f0875f1fb3f748759e9e63358e924ebbef"), looks := false }, kinds := [], alts := [], laidByText := true, laidKinds := [.data, .pinned], laidTests := true, laidLooks := .later }
def SolveTellsUptoCardSaid : Prop := Claim7.holds Tryd.pinned (.plain (OpenSpec.upto solveTellsSpec)) solveTellsUptoCard

/-- THE SECOND FORM's CARD OF 'holdalllaw20.SolveMore'. -/
def solveMoreUptoCard : Claim7 := { stood := { row := solveMoreUptoRow, standIns := [], harness := (true, "7b42b034821e04edba79e7a28f1079f0875f1fb3f748759e9e63358e924ebbef"), looks := false }, kinds := [], alts := [], laidByText := true, laidKinds := [.data, .pinned], laidTests := true, laidLooks := .later }
def SolveMoreUptoCardSaid : Prop := Claim7.holds Tryd.pinned (.plain (OpenSpec.upto solveMoreSpec)) solveMoreUptoCard

/-- THE SECOND FORM's CARD OF 'holdalllaw20.SolveUsers'. -/
def solveUsersUptoCard : Claim7 := { stood := { row := solveUsersUptoRow, standIns := [], harness := (true, "7b42b034821e04edba79e7a28f1079f0875f1fb3f748759e9e63358e924ebbef"), looks := false }, kinds := [], alts := [], laidByText := true, laidKinds := [.data, .pinned], laidTests := true, laidLooks := .later }
def SolveUsersUptoCardSaid : Prop := Claim7.holds Tryd.pinned (.plain (OpenSpec.upto solveUsersSpec)) solveUsersUptoCard

/-- THE SECOND FORM's CARD OF 'holdalllaw20.SolveOrder'. -/
def solveOrderUptoCard : Claim7 := { stood := { row := solveOrderUptoRow, standIns := [], harness := (true, "7b42b034821e04edba79e7a28f1079f0875f1fb3f748759e9e63358e924ebbef"), looks := false }, kinds := [], alts := [], laidByText := true, laidKinds := [.data, .pinned], laidTests := true, laidLooks := .later }
def SolveOrderUptoCardSaid : Prop := Claim7.holds Tryd.pinned (.plain (OpenSpec.upto solveOrderSpec)) solveOrderUptoCard
end Rows
end Go.Proofs.YtpbenhfnebgbiaaDoor
