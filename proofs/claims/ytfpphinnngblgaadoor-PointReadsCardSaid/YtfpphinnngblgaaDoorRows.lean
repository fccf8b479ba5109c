/-
  NARROWER THAN 'FOR EVERY INPUT', by the rows' own cells (each row's printed sentence says how): PointReads: laid · PointTells: laid · PointTimes: laid · PointRules: laid · PointSpreads: laid · PointApart: laid · PointSmall: laid.
  DERIVED. THE GIVEN ROWS OF THIS SEAT. 7 by the template 'for every input the law returns true; each argument reads behind the call as it read before'; 0 by the template 'total and deterministic' (their statements: YtfpphinnngblgaaDoorTotals.lean).
  GIVEN WITH THE SEED: the statements are not yours to turn. If you find one false, say at which input.
  Laid BY PROGRAM, IN A SANDBOX (cutbox-rows.mjs): the forced cells as the released guide's own fill.sh prints them over the translation 1ae8c084e5768836… (all of the seat's roots in one cut). By AI agents, Wed Nov 11 2026. No macro, syntax, notation, axiom, sorry.
-/
import Derived.Test.YtfpphinnngblgaaDoorChecked
import GoSem.Claim
import GoSem.ClaimJoined
import GoSem.ClaimMapViews
import Derived.JoinedTies
import Derived.KernelRfl
namespace Go.Proofs.YtfpphinnngblgaaDoor
/- THE CELL 'sum', in the pinned program and in every row, IS THE sha256 OF THE DUMP (.gsa) THAT YtfpphinnngblgaaDoorProg.lean LOADS. Nothing in Lean hashes anything: it is a label: what it is worth is what the hold of that sum in a sandbox is worth. -/
noncomputable def Tryd.pinned : Pinned := { name := "ytfpphinnngblgaadoor", sum := "1ae8c084e5768836634feaae7cc35f541da797c46843e804dcf49f8409df8209", checked := Tryd.checked }
namespace Rows
def none {H : Type} : Left H := { results := [], args := [] }

/- WHAT THE LISTED PACKAGE-LEVEL VARIABLES READ AS WHEN THE CALL BEGINS. Each datum BY PROGRAM (the guide's laid-datum.mjs) off the statement by which the dump's own 'gosem.cut.vars' lays the variable. In a bare row this is a premise. The card (YtfpphinnngblgaaDoorCards.lean) ties it to the program's text. -/
def laid_holdall_point_d {H : Type} : DataW H := .agg [.lit (.int .u8 163), .lit (.int .u8 120), .lit (.int .u8 89), .lit (.int .u8 19), .lit (.int .u8 202), .lit (.int .u8 77), .lit (.int .u8 235), .lit (.int .u8 117), .lit (.int .u8 171), .lit (.int .u8 216), .lit (.int .u8 65), .lit (.int .u8 65), .lit (.int .u8 77), .lit (.int .u8 10), .lit (.int .u8 112), .lit (.int .u8 0), .lit (.int .u8 152), .lit (.int .u8 232), .lit (.int .u8 121), .lit (.int .u8 119), .lit (.int .u8 121), .lit (.int .u8 64), .lit (.int .u8 199), .lit (.int .u8 140), .lit (.int .u8 115), .lit (.int .u8 254), .lit (.int .u8 111), .lit (.int .u8 43), .lit (.int .u8 238), .lit (.int .u8 108), .lit (.int .u8 3), .lit (.int .u8 82)]

/-- 'holdalllaw05.PointReads': WHATEVER THE INPUT: true; the input reads as it did. -/
def pointReadsSpec : ChangeSpec := { name := "pointReads", fn := fun _ => fun
  | [d] => { results := [.lit (.bool true)], args := [d] }
  | _ => none }
def pointReadsRow : OpenClaim := { program := "ytfpphinnngblgaadoor", sum := "1ae8c084e5768836634feaae7cc35f541da797c46843e804dcf49f8409df8209", func := "holdall/holdalllaw05.PointReads", spec := "pointReads", inPlace := ["math/bits.Sub64", "math/bits.Add64"], named := ["holdall/point.d"], apart := false, laid := [("holdall/point.d", laid_holdall_point_d)] }
def PointReadsSaid : Prop := pointReadsRow.holds Tryd.pinned (OpenSpec.ofChange pointReadsSpec)

/-- ITS FALSE NEIGHBOUR: 'it returns false'. Refute it at one input. -/
def pointReadsWrong : ChangeSpec := { name := "pointReads", fn := fun _ => fun
  | [d] => { results := [.lit (.bool false)], args := [d] }
  | _ => none }
def PointReadsWrongFalsely : Prop := pointReadsRow.holds Tryd.pinned (OpenSpec.ofChange pointReadsWrong)

/-- 'holdalllaw05.PointTells': WHATEVER THE INPUT: true; the input reads as it did. -/
def pointTellsSpec : ChangeSpec := { name := "pointTells", fn := fun _ => fun
  | [d1, d2] => { results := [.lit (.bool true)], args := [d1, d2] }
  | _ => none }
def pointTellsRow : OpenClaim := { program := "ytfpphinnngblgaadoor", sum := "1ae8c084e5768836634feaae7cc35f541da797c46843e804dcf49f8409df8209", func := "holdall/holdalllaw05.PointTells", spec := "pointTells", inPlace := ["math/bits.Sub64", "math/bits.Add64"], named := ["holdall/point.d"], apart := false, laid := [("holdall/point.d", laid_holdall_point_d)] }
def PointTellsSaid : Prop := pointTellsRow.holds Tryd.pinned (OpenSpec.ofChange pointTellsSpec)

/-- ITS FALSE NEIGHBOUR: 'it returns false'. Refute it at one input. -/
def pointTellsWrong : ChangeSpec := { name := "pointTells", fn := fun _ => fun
  | [d1, d2] => { results := [.lit (.bool false)], args := [d1, d2] }
  | _ => none }
def PointTellsWrongFalsely : Prop := pointTellsRow.holds Tryd.pinned (OpenSpec.ofChange pointTellsWrong)

/-- 'holdalllaw05.PointTimes': WHATEVER THE INPUT: true; the input reads as it did. -/
def pointTimesSpec : ChangeSpec := { name := "pointTimes", fn := fun _ => fun
  | [d1, d2] => { results := [.lit (.bool true)], args := [d1, d2] }
  | _ => none }
def pointTimesRow : OpenClaim := { program := "ytfpphinnngblgaadoor", sum := "1ae8c084e5768836634feaae7cc35f541da797c46843e804dcf49f8409df8209", func := "holdall/holdalllaw05.PointTimes", spec := "pointTimes", inPlace := ["math/bits.Sub64", "math/bits.Add64"], named := ["holdall/point.d"], apart := false, laid := [("holdall/point.d", laid_holdall_point_d)] }
def PointTimesSaid : Prop := pointTimesRow.holds Tryd.pinned (OpenSpec.ofChange pointTimesSpec)

/-- ITS FALSE NEIGHBOUR: 'it returns false'. Refute it at one input. -/
def pointTimesWrong : ChangeSpec := { name := "pointTimes", fn := fun _ => fun
  | [d1, d2] => { results := [.lit (.bool false)], args := [d1, d2] }
  | _ => none }
def PointTimesWrongFalsely : Prop := pointTimesRow.holds Tryd.pinned (OpenSpec.ofChange pointTimesWrong)

/-- 'holdalllaw05.PointRules': WHATEVER THE INPUT: true; the input reads as it did. -/
def pointRulesSpec : ChangeSpec := { name := "pointRules", fn := fun _ => fun
  | [d1, d2, d3] => { results := [.lit (.bool true)], args := [d1, d2, d3] }
  | _ => none }
def pointRulesRow : OpenClaim := { program := "ytfpphinnngblgaadoor", sum := "1ae8c084e5768836634feaae7cc35f541da797c46843e804dcf49f8409df8209", func := "holdall/holdalllaw05.PointRules", spec := "pointRules", inPlace := ["math/bits.Sub64", "math/bits.Add64"], named := ["holdall/point.d"], apart := false, laid := [("holdall/point.d", laid_holdall_point_d)] }
def PointRulesSaid : Prop := pointRulesRow.holds Tryd.pinned (OpenSpec.ofChange pointRulesSpec)

/-- ITS FALSE NEIGHBOUR: 'it returns false'. Refute it at one input. -/
def pointRulesWrong : ChangeSpec := { name := "pointRules", fn := fun _ => fun
  | [d1, d2, d3] => { results := [.lit (.bool false)], args := [d1, d2, d3] }
  | _ => none }
def PointRulesWrongFalsely : Prop := pointRulesRow.holds Tryd.pinned (OpenSpec.ofChange pointRulesWrong)

/-- 'holdalllaw05.PointSpreads': WHATEVER THE INPUT: true; the input reads as it did. -/
def pointSpreadsSpec : ChangeSpec := { name := "pointSpreads", fn := fun _ => fun
  | [d1, d2, d3] => { results := [.lit (.bool true)], args := [d1, d2, d3] }
  | _ => none }
def pointSpreadsRow : OpenClaim := { program := "ytfpphinnngblgaadoor", sum := "1ae8c084e5768836634feaae7cc35f541da797c46843e804dcf49f8409df8209", func := "holdall/holdalllaw05.PointSpreads", spec := "pointSpreads", inPlace := ["math/bits.Sub64", "math/bits.Add64"], named := ["holdall/point.d"], apart := false, laid := [("holdall/point.d", laid_holdall_point_d)] }
def PointSpreadsSaid : Prop := pointSpreadsRow.holds Tryd.pinned (OpenSpec.ofChange pointSpreadsSpec)

/-- ITS FALSE NEIGHBOUR: 'it returns false'. Refute it at one input. -/
def pointSpreadsWrong : ChangeSpec := { name := "pointSpreads", fn := fun _ => fun
  | [d1, d2, d3] => { results := [.lit (.bool false)], args := [d1, d2, d3] }
  | _ => none }
def PointSpreadsWrongFalsely : Prop := pointSpreadsRow.holds Tryd.pinned (OpenSpec.ofChange pointSpreadsWrong)

/-- 'holdalllaw05.PointApart': WHATEVER THE INPUT: true; the input reads as it did. -/
def pointApartSpec : ChangeSpec := { name := "pointApart", fn := fun _ => fun
  | [d1, d2] => { results := [.lit (.bool true)], args := [d1, d2] }
  | _ => none }
def pointApartRow : OpenClaim := { program := "ytfpphinnngblgaadoor", sum := "1ae8c084e5768836634feaae7cc35f541da797c46843e804dcf49f8409df8209", func := "holdall/holdalllaw05.PointApart", spec := "pointApart", inPlace := ["math/bits.Sub64", "math/bits.Add64"], named := ["holdall/point.d"], apart := false, laid := [("holdall/point.d", laid_holdall_point_d)] }
def PointApartSaid : Prop := pointApartRow.holds Tryd.pinned (OpenSpec.ofChange pointApartSpec)

/-- ITS FALSE NEIGHBOUR: 'it returns false'. Refute it at one input. -/
def pointApartWrong : ChangeSpec := { name := "pointApart", fn := fun _ => fun
  | [d1, d2] => { results := [.lit (.bool false)], args := [d1, d2] }
  | _ => none }
def PointApartWrongFalsely : Prop := pointApartRow.holds Tryd.pinned (OpenSpec.ofChange pointApartWrong)

/-- 'holdalllaw05.PointSmall': WHATEVER THE INPUT: true; the input reads as it did. -/
def pointSmallSpec : ChangeSpec := { name := "pointSmall", fn := fun _ => fun
  | [d] => { results := [.lit (.bool true)], args := [d] }
  | _ => none }
def pointSmallRow : OpenClaim := { program := "ytfpphinnngblgaadoor", sum := "1ae8c084e5768836634feaae7cc35f541da797c46843e804dcf49f8409df8209", func := "holdall/holdalllaw05.PointSmall", spec := "pointSmall", inPlace := ["math/bits.Sub64", "math/bits.Add64"], named := ["holdall/point.d"], apart := false, laid := [("holdall/point.d", laid_holdall_point_d)] }
def PointSmallSaid : Prop := pointSmallRow.holds Tryd.pinned (OpenSpec.ofChange pointSmallSpec)

/-- ITS FALSE NEIGHBOUR: 'it returns false'. Refute it at one input. -/
def pointSmallWrong : ChangeSpec := { name := "pointSmall", fn := fun _ => fun
  | [d] => { results := [.lit (.bool false)], args := [d] }
  | _ => none }
def PointSmallWrongFalsely : Prop := pointSmallRow.holds Tryd.pinned (OpenSpec.ofChange pointSmallWrong)

/- THE SECOND FORM. 'bulk': how many values and letters a reading holds, each counted each time it is reached (what is shared counts as often as it is met; a slice's spare places count too). A statement '..UptoSaid' is the law's where the arguments, and the package variables that the reading takes, are together of bulk at most 1048576: NARROWER than '..Said'. Prove '..Said' where nothing that the law and all that it calls make is longer than what came in: it says more and counts as full. Else prove '..UptoSaid'. A law counts once. -/
mutual
def uptoBulk {H : Type} : DataW H → Nat
  | .lit (.string bytes) => bytes.length + 1
  | .lit _ => 1
  | .nil => 1
  | .ptr d => uptoBulk d + 1
  | .slice elems spare => uptoBulkAll elems + uptoBulkAll spare + 1
  | .agg parts => uptoBulkAll parts + 1
  | .iface _ d => uptoBulk d + 1
  | .map entries => uptoBulkEntries entries + 1
  | .held _ => 1
def uptoBulkAll {H : Type} : List (DataW H) → Nat
  | [] => 0
  | d :: r => uptoBulk d + uptoBulkAll r
def uptoBulkEntries {H : Type} : List (Lit × DataW H) → Nat
  | [] => 0
  | x :: r => uptoBulkEntry x + uptoBulkEntries r
def uptoBulkEntry {H : Type} : Lit × DataW H → Nat
  | (.string bytes, d) => bytes.length + uptoBulk d + 1
  | (_, d) => uptoBulk d + 1
 end
def uptoSmall : (H : Type) → List (DataW H) → Bool := fun _ ds => decide (uptoBulkAll ds ≤ 1048576)
def OpenSpec.upto (s : _root_.Go.ChangeSpec) : _root_.Go.OpenSpec := { _root_.Go.OpenSpec.ofChange s with cond := some uptoSmall }

/-- 'holdalllaw05.PointReads', WHERE WHAT IT READS IS OF BULK AT MOST 1048576: true; the input reads as it did. -/
def pointReadsUptoRow : OpenClaim := { program := "ytfpphinnngblgaadoor", sum := "1ae8c084e5768836634feaae7cc35f541da797c46843e804dcf49f8409df8209", func := "holdall/holdalllaw05.PointReads", spec := "pointReads", inPlace := ["math/bits.Sub64", "math/bits.Add64"], named := ["holdall/point.d"], apart := false, laid := [("holdall/point.d", laid_holdall_point_d)], narrowed := true }
def PointReadsUptoSaid : Prop := pointReadsUptoRow.holds Tryd.pinned (OpenSpec.upto pointReadsSpec)

/-- 'holdalllaw05.PointTells', WHERE WHAT IT READS IS OF BULK AT MOST 1048576: true; the input reads as it did. -/
def pointTellsUptoRow : OpenClaim := { program := "ytfpphinnngblgaadoor", sum := "1ae8c084e5768836634feaae7cc35f541da797c46843e804dcf49f8409df8209", func := "holdall/holdalllaw05.PointTells", spec := "pointTells", inPlace := ["math/bits.Sub64", "math/bits.Add64"], named := ["holdall/point.d"], apart := false, laid := [("holdall/point.d", laid_holdall_point_d)], narrowed := true }
def PointTellsUptoSaid : Prop := pointTellsUptoRow.holds Tryd.pinned (OpenSpec.upto pointTellsSpec)

/-- 'holdalllaw05.PointTimes', WHERE WHAT IT READS IS OF BULK AT MOST 1048576: true; the input reads as it did. -/
def pointTimesUptoRow : OpenClaim := { program := "ytfpphinnngblgaadoor", sum := "1ae8c084e5768836634feaae7cc35f541da797c46843e804dcf49f8409df8209", func := "holdall/holdalllaw05.PointTimes", spec := "pointTimes", inPlace := ["math/bits.Sub64", "math/bits.Add64"], named := ["holdall/point.d"], apart := false, laid := [("holdall/point.d", laid_holdall_point_d)], narrowed := true }
def PointTimesUptoSaid : Prop := pointTimesUptoRow.holds Tryd.pinned (OpenSpec.upto pointTimesSpec)

/-- 'holdalllaw05.PointRules', WHERE WHAT IT READS IS OF BULK AT MOST 1048576: true; the input reads as it did. -/
def pointRulesUptoRow : OpenClaim := { program := "ytfpphinnngblgaadoor", sum := "1ae8c084e5768836634feaae7cc35f541da797c46843e804dcf49f8409df8209", func := "holdall/holdalllaw05.PointRules", spec := "pointRules", inPlace := ["math/bits.Sub64", "math/bits.Add64"], named := ["holdall/point.d"], apart := false, laid := [("holdall/point.d", laid_holdall_point_d)], narrowed := true }
def PointRulesUptoSaid : Prop := pointRulesUptoRow.holds Tryd.pinned (OpenSpec.upto pointRulesSpec)

/-- 'holdalllaw05.PointSpreads', WHERE WHAT IT READS IS OF BULK AT MOST 1048576: true; the input reads as it did. -/
def pointSpreadsUptoRow : OpenClaim := { program := "ytfpphinnngblgaadoor", sum := "1ae8c084e5768836634feaae7cc35f541da797c46843e804dcf49f8409df8209", func := "holdall/holdalllaw05.PointSpreads", spec := "pointSpreads", inPlace := ["math/bits.Sub64", "math/bits.Add64"], named := ["holdall/point.d"], apart := false, laid := [("holdall/point.d", laid_holdall_point_d)], narrowed := true }
def PointSpreadsUptoSaid : Prop := pointSpreadsUptoRow.holds Tryd.pinned (OpenSpec.upto pointSpreadsSpec)

/-- 'holdalllaw05.PointApart', WHERE WHAT IT READS IS OF BULK AT MOST 1048576: true; the input reads as it did. -/
def pointApartUptoRow : OpenClaim := { program := "ytfpphinnngblgaadoor", sum := "1ae8c084e5768836634feaae7cc35f541da797c46843e804dcf49f8409df8209", func := "holdall/holdalllaw05.PointApart", spec := "pointApart", inPlace := ["math/bits.Sub64", "math/bits.Add64"], named := ["holdall/point.d"], apart := false, laid := [("holdall/point.d", laid_holdall_point_d)], narrowed := true }
def PointApartUptoSaid : Prop := pointApartUptoRow.holds Tryd.pinned (OpenSpec.upto pointApartSpec)

/-- 'holdalllaw05.PointSmall', WHERE WHAT IT READS IS OF BULK AT MOST 1048576: true; the input reads as it did. -/
def pointSmallUptoRow : OpenClaim := { program := "ytfpphinnngblgaadoor", sum := "1ae8c084e5768836634feaae7cc35f541da797c46843e804dcf49f8409df8209", func := "holdall/holdalllaw05.PointSmall", spec := "pointSmall", inPlace := ["math/bits.Sub64", "math/bits.Add64"], named := ["holdall/point.d"], apart := false, laid := [("holdall/point.d", laid_holdall_point_d)], narrowed := true }
def PointSmallUptoSaid : Prop := pointSmallUptoRow.holds Tryd.pinned (OpenSpec.upto pointSmallSpec)

end Rows
end Go.Proofs.YtfpphinnngblgaaDoor
