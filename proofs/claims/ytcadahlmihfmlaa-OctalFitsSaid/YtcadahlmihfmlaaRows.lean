/-
  No cell of these rows narrows 'for every input' (looked for: loops, veiled, ifaces, maps, wideKeys, modest, calm, conditions, laid).
  DERIVED. THE GIVEN ROWS OF THIS SEAT. 7 by the template 'for every input the law returns true; each argument reads behind the call as it read before'; 0 by the template 'total and deterministic' (their statements: YtcadahlmihfmlaaTotals.lean).
  GIVEN WITH THE SEED: the statements are not yours to turn. If you find one false, say at which input.
  Laid BY PROGRAM, IN A SANDBOX (cutbox-rows.mjs): the forced cells as the released guide's own fill.sh prints them over the translation bf72c744072873b2… (all of the seat's roots in one cut). By AI agents, Wed Nov 11 2026. No macro, syntax, notation, axiom, sorry.
-/
import Derived.Test.YtcadahlmihfmlaaChecked
import GoSem.Claim
import GoSem.ClaimJoined
import GoSem.ClaimMapViews
import Derived.JoinedTies
import Derived.KernelRfl
namespace Go.Proofs.Ytcadahlmihfmlaa
/- THE CELL 'sum', in the pinned program and in every row, IS THE sha256 OF THE DUMP (.gsa) THAT YtcadahlmihfmlaaProg.lean LOADS. Nothing in Lean hashes anything: it is a label: what it is worth is what the hold of that sum in a sandbox is worth. -/
noncomputable def Try.pinned : Pinned := { name := "ytcadahlmihfmlaa", sum := "bf72c744072873b2a853d19f847a82a7672a2e8200c2af44d82eb0bdbd19954a", checked := Try.checked }
namespace Rows
def none {H : Type} : Left H := { results := [], args := [] }

/-- 'holdalllaw08.OctalPuts': WHATEVER THE INPUT: true; the input reads as it did. -/
def octalPutsSpec : ChangeSpec := { name := "octalPuts", fn := fun _ => fun
  | [d1, d2] => { results := [.lit (.bool true)], args := [d1, d2] }
  | _ => none }
def octalPutsRow : OpenClaim := { program := "ytcadahlmihfmlaa", sum := "bf72c744072873b2a853d19f847a82a7672a2e8200c2af44d82eb0bdbd19954a", func := "holdall/holdalllaw08.OctalPuts", spec := "octalPuts", apart := false }
def OctalPutsSaid : Prop := octalPutsRow.holds Try.pinned (OpenSpec.ofChange octalPutsSpec)

/-- ITS FALSE NEIGHBOUR: 'it returns false'. Refute it at one input. -/
def octalPutsWrong : ChangeSpec := { name := "octalPuts", fn := fun _ => fun
  | [d1, d2] => { results := [.lit (.bool false)], args := [d1, d2] }
  | _ => none }
def OctalPutsWrongFalsely : Prop := octalPutsRow.holds Try.pinned (OpenSpec.ofChange octalPutsWrong)

/-- 'holdalllaw08.OctalGets': WHATEVER THE INPUT: true; the input reads as it did. -/
def octalGetsSpec : ChangeSpec := { name := "octalGets", fn := fun _ => fun
  | [d] => { results := [.lit (.bool true)], args := [d] }
  | _ => none }
def octalGetsRow : OpenClaim := { program := "ytcadahlmihfmlaa", sum := "bf72c744072873b2a853d19f847a82a7672a2e8200c2af44d82eb0bdbd19954a", func := "holdall/holdalllaw08.OctalGets", spec := "octalGets", apart := false }
def OctalGetsSaid : Prop := octalGetsRow.holds Try.pinned (OpenSpec.ofChange octalGetsSpec)

/-- ITS FALSE NEIGHBOUR: 'it returns false'. Refute it at one input. -/
def octalGetsWrong : ChangeSpec := { name := "octalGets", fn := fun _ => fun
  | [d] => { results := [.lit (.bool false)], args := [d] }
  | _ => none }
def OctalGetsWrongFalsely : Prop := octalGetsRow.holds Try.pinned (OpenSpec.ofChange octalGetsWrong)

/-- 'holdalllaw08.OctalBack': WHATEVER THE INPUT: true; the input reads as it did. -/
def octalBackSpec : ChangeSpec := { name := "octalBack", fn := fun _ => fun
  | [d1, d2] => { results := [.lit (.bool true)], args := [d1, d2] }
  | _ => none }
def octalBackRow : OpenClaim := { program := "ytcadahlmihfmlaa", sum := "bf72c744072873b2a853d19f847a82a7672a2e8200c2af44d82eb0bdbd19954a", func := "holdall/holdalllaw08.OctalBack", spec := "octalBack", apart := false }
def OctalBackSaid : Prop := octalBackRow.holds Try.pinned (OpenSpec.ofChange octalBackSpec)

/-- ITS FALSE NEIGHBOUR: 'it returns false'. Refute it at one input. -/
def octalBackWrong : ChangeSpec := { name := "octalBack", fn := fun _ => fun
  | [d1, d2] => { results := [.lit (.bool false)], args := [d1, d2] }
  | _ => none }
def OctalBackWrongFalsely : Prop := octalBackRow.holds Try.pinned (OpenSpec.ofChange octalBackWrong)

/-- 'holdalllaw08.OctalFits': WHATEVER THE INPUT: true; the input reads as it did. -/
def octalFitsSpec : ChangeSpec := { name := "octalFits", fn := fun _ => fun
  | [d1, d2] => { results := [.lit (.bool true)], args := [d1, d2] }
  | _ => none }
def octalFitsRow : OpenClaim := { program := "ytcadahlmihfmlaa", sum := "bf72c744072873b2a853d19f847a82a7672a2e8200c2af44d82eb0bdbd19954a", func := "holdall/holdalllaw08.OctalFits", spec := "octalFits", apart := false }
def OctalFitsSaid : Prop := octalFitsRow.holds Try.pinned (OpenSpec.ofChange octalFitsSpec)

/-- ITS FALSE NEIGHBOUR: 'it returns false'. Refute it at one input. -/
def octalFitsWrong : ChangeSpec := { name := "octalFits", fn := fun _ => fun
  | [d1, d2] => { results := [.lit (.bool false)], args := [d1, d2] }
  | _ => none }
def OctalFitsWrongFalsely : Prop := octalFitsRow.holds Try.pinned (OpenSpec.ofChange octalFitsWrong)

/-- 'holdalllaw21.ConfigDecides': WHATEVER THE INPUT: true; the input reads as it did. -/
def configDecidesSpec : ChangeSpec := { name := "configDecides", fn := fun _ => fun
  | [d1, d2, d3] => { results := [.lit (.bool true)], args := [d1, d2, d3] }
  | _ => none }
def configDecidesRow : OpenClaim := { program := "ytcadahlmihfmlaa", sum := "bf72c744072873b2a853d19f847a82a7672a2e8200c2af44d82eb0bdbd19954a", func := "holdall/holdalllaw21.ConfigDecides", spec := "configDecides", apart := false }
def ConfigDecidesSaid : Prop := configDecidesRow.holds Try.pinned (OpenSpec.ofChange configDecidesSpec)

/-- ITS FALSE NEIGHBOUR: 'it returns false'. Refute it at one input. -/
def configDecidesWrong : ChangeSpec := { name := "configDecides", fn := fun _ => fun
  | [d1, d2, d3] => { results := [.lit (.bool false)], args := [d1, d2, d3] }
  | _ => none }
def ConfigDecidesWrongFalsely : Prop := configDecidesRow.holds Try.pinned (OpenSpec.ofChange configDecidesWrong)

/-- 'holdalllaw21.ConfigTable': WHATEVER THE INPUT: true; the input reads as it did. -/
def configTableSpec : ChangeSpec := { name := "configTable", fn := fun _ => fun
  | [d1, d2, d3] => { results := [.lit (.bool true)], args := [d1, d2, d3] }
  | _ => none }
def configTableRow : OpenClaim := { program := "ytcadahlmihfmlaa", sum := "bf72c744072873b2a853d19f847a82a7672a2e8200c2af44d82eb0bdbd19954a", func := "holdall/holdalllaw21.ConfigTable", spec := "configTable", apart := false }
def ConfigTableSaid : Prop := configTableRow.holds Try.pinned (OpenSpec.ofChange configTableSpec)

/-- ITS FALSE NEIGHBOUR: 'it returns false'. Refute it at one input. -/
def configTableWrong : ChangeSpec := { name := "configTable", fn := fun _ => fun
  | [d1, d2, d3] => { results := [.lit (.bool false)], args := [d1, d2, d3] }
  | _ => none }
def ConfigTableWrongFalsely : Prop := configTableRow.holds Try.pinned (OpenSpec.ofChange configTableWrong)

/-- 'holdalllaw21.ConfigNames': WHATEVER THE INPUT: true; the input reads as it did. -/
def configNamesSpec : ChangeSpec := { name := "configNames", fn := fun _ => fun
  | [d1, d2] => { results := [.lit (.bool true)], args := [d1, d2] }
  | _ => none }
def configNamesRow : OpenClaim := { program := "ytcadahlmihfmlaa", sum := "bf72c744072873b2a853d19f847a82a7672a2e8200c2af44d82eb0bdbd19954a", func := "holdall/holdalllaw21.ConfigNames", spec := "configNames", apart := false }
def ConfigNamesSaid : Prop := configNamesRow.holds Try.pinned (OpenSpec.ofChange configNamesSpec)

/-- ITS FALSE NEIGHBOUR: 'it returns false'. Refute it at one input. -/
def configNamesWrong : ChangeSpec := { name := "configNames", fn := fun _ => fun
  | [d1, d2] => { results := [.lit (.bool false)], args := [d1, d2] }
  | _ => none }
def ConfigNamesWrongFalsely : Prop := configNamesRow.holds Try.pinned (OpenSpec.ofChange configNamesWrong)

/- THE SECOND FORM. 'bulk': how many values and letters a reading holds, each counted each time it is reached (what is shared counts as often as it is met; a slice's spare places count too). A statement '..UptoSaid' is the law's where the arguments, and the package variables that the reading takes, are together of bulk at most 1048576: NARROWER than '..Said'. Prove '..Said' where nothing that the law and all that it calls make is longer than what came in: it says more and counts as full. Else prove '..UptoSaid'. A law counts once. -/
mutual
def uptoBulk {H : Type} : DataW H → Nat
  | .lit (.string bytes) => bytes.length + 1
  | .lit _ => 1
  | .nil => 1
  | .ptr d => uptoBulk d + 1
  | .slice elems spare => uptoBulkAll elems + uptoBulkAll spare + 1
  | .agg parts => uptoBulkAll parts + 1
  | .iface _ d => uptoBulk d + 1
  | .map entries => uptoBulkEntries entries + 1
  | .held _ => 1
def uptoBulkAll {H : Type} : List (DataW H) → Nat
  | [] => 0
  | d :: r => uptoBulk d + uptoBulkAll r
def uptoBulkEntries {H : Type} : List (Lit × DataW H) → Nat
  | [] => 0
  | x :: r => uptoBulkEntry x + uptoBulkEntries r
def uptoBulkEntry {H : Type} : Lit × DataW H → Nat
  | (.string bytes, d) => bytes.length + uptoBulk d + 1
  | (_, d) => uptoBulk d + 1
 end
def uptoSmall : (H : Type) → List (DataW H) → Bool := fun _ ds => decide (uptoBulkAll ds ≤ 1048576)
def OpenSpec.upto (s : _root_.Go.ChangeSpec) : _root_.Go.OpenSpec := { _root_.Go.OpenSpec.ofChange s with cond := some uptoSmall }

/-- 'holdalllaw08.OctalPuts', WHERE WHAT IT READS IS OF BULK AT MOST 1048576: true; the input reads as it did. -/
def octalPutsUptoRow : OpenClaim := { program := "ytcadahlmihfmlaa", sum := "bf72c744072873b2a853d19f847a82a7672a2e8200c2af44d82eb0bdbd19954a", func := "holdall/holdalllaw08.OctalPuts", spec := "octalPuts", apart := false, narrowed := true }
def OctalPutsUptoSaid : Prop := octalPutsUptoRow.holds Try.pinned (OpenSpec.upto octalPutsSpec)

/-- 'holdalllaw08.OctalGets', WHERE WHAT IT READS IS OF BULK AT MOST 1048576: true; the input reads as it did. -/
def octalGetsUptoRow : OpenClaim := { program := "ytcadahlmihfmlaa", sum := "bf72c744072873b2a853d19f847a82a7672a2e8200c2af44d82eb0bdbd19954a", func := "holdall/holdalllaw08.OctalGets", spec := "octalGets", apart := false, narrowed := true }
def OctalGetsUptoSaid : Prop := octalGetsUptoRow.holds Try.pinned (OpenSpec.upto octalGetsSpec)

/-- 'holdalllaw08.OctalBack', WHERE WHAT IT READS IS OF BULK AT MOST 1048576: true; the input reads as it did. -/
def octalBackUptoRow : OpenClaim := { program := "ytcadahlmihfmlaa", sum := "bf72c744072873b2a853d19f847a82a7672a2e8200c2af44d82eb0bdbd19954a", func := "holdall/holdalllaw08.OctalBack", spec := "octalBack", apart := false, narrowed := true }
def OctalBackUptoSaid : Prop := octalBackUptoRow.holds Try.pinned (OpenSpec.upto octalBackSpec)

/-- 'holdalllaw08.OctalFits', WHERE WHAT IT READS IS OF BULK AT MOST 1048576: true; the input reads as it did. -/
def octalFitsUptoRow : OpenClaim := { program := "ytcadahlmihfmlaa", sum := "bf72c744072873b2a853d19f847a82a7672a2e8200c2af44d82eb0bdbd19954a", func := "holdall/holdalllaw08.OctalFits", spec := "octalFits", apart := false, narrowed := true }
def OctalFitsUptoSaid : Prop := octalFitsUptoRow.holds Try.pinned (OpenSpec.upto octalFitsSpec)

/-- 'holdalllaw21.ConfigDecides', WHERE WHAT IT READS IS OF BULK AT MOST 1048576: true; the input reads as it did. -/
def configDecidesUptoRow : OpenClaim := { program := "ytcadahlmihfmlaa", sum := "bf72c744072873b2a853d19f847a82a7672a2e8200c2af44d82eb0bdbd19954a", func := "holdall/holdalllaw21.ConfigDecides", spec := "configDecides", apart := false, narrowed := true }
def ConfigDecidesUptoSaid : Prop := configDecidesUptoRow.holds Try.pinned (OpenSpec.upto configDecidesSpec)

/-- 'holdalllaw21.ConfigTable', WHERE WHAT IT READS IS OF BULK AT MOST 1048576: true; the input reads as it did. -/
def configTableUptoRow : OpenClaim := { program := "ytcadahlmihfmlaa", sum := "bf72c744072873b2a853d19f847a82a7672a2e8200c2af44d82eb0bdbd19954a", func := "holdall/holdalllaw21.ConfigTable", spec := "configTable", apart := false, narrowed := true }
def ConfigTableUptoSaid : Prop := configTableUptoRow.holds Try.pinned (OpenSpec.upto configTableSpec)

/-- 'holdalllaw21.ConfigNames', WHERE WHAT IT READS IS OF BULK AT MOST 1048576: true; the input reads as it did. -/
def configNamesUptoRow : OpenClaim := { program := "ytcadahlmihfmlaa", sum := "bf72c744072873b2a853d19f847a82a7672a2e8200c2af44d82eb0bdbd19954a", func := "holdall/holdalllaw21.ConfigNames", spec := "configNames", apart := false, narrowed := true }
def ConfigNamesUptoSaid : Prop := configNamesUptoRow.holds Try.pinned (OpenSpec.upto configNamesSpec)

end Rows
end Go.Proofs.Ytcadahlmihfmlaa
