/- Layer 9: what the library's table holds as the rows list it. -/
import Derived.Test.YtglnifckngcpkaaDoorOp
import Derived.Test.YtglnifckngcpkaaDoorHdK
import Derived.Lib.LaidTab
import Derived.Lib.LaidU8
import Derived.LaidLaws
import Derived.LaidMore
import Derived.Deep.DeepHandedRow
import Derived.ProofKit
set_option linter.unusedVariables false
namespace Go.Proofs.YtglnifckngcpkaaDoor.Hd
open Go.ChangeShapes Go.WideShapes Go.ChangeAt Go.RowKit Go.ChangeMaps
open Go.Proofs.YtglnifckngcpkaaDoor.Mem
open Go.Shelf
def laidL : List (String × DataW Unit) := [("holdall/header.widths", Rows.laid_holdall_header_widths)]
theorem tab_eq : (Rows.laid_holdall_header_widths : DataW Unit) = Lib.tabData .i64 wids := by kernel_rfl
theorem tab_ty : (Tryd.prog.globals[0]?).map (·.type) = some 51 := by kernel_rfl
theorem laid_of {W : World} (hL : laidMetH Tryd.prog laidL W) (hS : W.ShapedOpen Tryd.prog) : Laid W := by
  have h1 := Lib.laidMet.reads hL (.head _)
  refine ⟨?_, Tryd.laysM145.s1_3 W hS⟩
  rw [tab_eq] at h1
  obtain ⟨g', t', cs, fuel, p, hg', ht', hvar, hd⟩ := h1
  have hg : Tryd.prog.globalNamed "holdall/header.widths" = some 0 := by kernel_rfl
  obtain rfl := Option.some.inj (hg.symm.trans hg')
  obtain rfl := Option.some.inj (tab_ty.symm.trans ht')
  have hc := Lib.cells_of_tab Tryd.underlying51 Tryd.underlying3 (by kernel_rfl) (by kernel_rfl) hd
  have hT : Lib.TabIs Tryd.prog W "holdall/header.widths" .i64 wids := by
    unfold Lib.TabIs
    rw [hvar, ← hc]
  intro i v hi
  have hlt : i < wids.length := (List.getElem?_eq_some_iff.1 hi).1
  have := hT.cell hg i hlt
  rw [this]
  simp [List.getD, hi]
noncomputable def laidWorld (os : Os) : World := World.doorLaid Tryd.prog 2000 os
theorem laid_met (os : Os) (args : Array Value) : laidMet Tryd.prog laidL ((laidWorld os).forCall (fun _ _ => 0) ⟨#[], args, []⟩).memory :=
  laidMet_of_run' 8 (by kernel_rfl) (by kernel_rfl)
end Go.Proofs.YtglnifckngcpkaaDoor.Hd
