/- Layer 10: what the library's tables and variables hold as the rows list them. -/
import Derived.Test.YtglnifckngcpkaaDoorOp
import Derived.Test.YtglnifckngcpkaaDoorPxK
import Derived.Lib.LaidTab
import Derived.Lib.LaidU8
import Derived.LaidLaws
import Derived.LaidMore
import Derived.Deep.DeepHandedRow
import Derived.ProofKit
set_option linter.unusedVariables false
namespace Go.Proofs.YtglnifckngcpkaaDoor.Px
open Go.ChangeShapes Go.WideShapes Go.ChangeAt Go.RowKit Go.ChangeMaps
open Go.Proofs.YtglnifckngcpkaaDoor.Mem
open Go.Shelf
def laidL : List (String × DataW Unit) := [("math/bits.deBruijn32tab", Rows.laid_math_bits_deBruijn32tab), ("math/bits.deBruijn64tab", Rows.laid_math_bits_deBruijn64tab), ("internal/strconv.uint64pow10", Rows.laid_internal_strconv_uint64pow10), ("strconv.ErrRange", Rows.laid_strconv_ErrRange), ("strconv.ErrSyntax", Rows.laid_strconv_ErrSyntax)]
theorem tab_eq : (Rows.laid_internal_strconv_uint64pow10 : DataW Unit) = Lib.tabData .u64 Lib.pow10Tab := by kernel_rfl
theorem tab_ty : (Tryd.prog.globals[4]?).map (·.type) = some 117 := by kernel_rfl
theorem err_at {W : World} {nm txt : String} {g : Nat} {d : DataW Unit} {name : String} (hg : Tryd.prog.globalNamed nm = some g) (hty : (Tryd.prog.globals[g]?).map (·.type) = some 76) (h : Lib.VarReads Tryd.prog W nm (.iface name d)) : ∃ te pe, W.cell? ⟨g, 0, none⟩ = some (.iface te pe) := by
  obtain ⟨g', t', cs, fuel, p, hg', ht', hvar, hd⟩ := h
  obtain rfl := Option.some.inj (hg.symm.trans hg')
  obtain rfl := Option.some.inj (hty.symm.trans ht')
  obtain ⟨n, u, v, e2, e1, _⟩ := iface_of_trod if_76 hd
  have h0 := World.var?_cell hg hvar 0
  have e3 : cs[0]? = some (.iface u v) := by
    have := congrArg (·[0]?) e2
    simpa using this
  exact ⟨u, v, h0.trans e3⟩
theorem laid_of {W : World} (hL : laidMetH Tryd.prog laidL W) (hS : W.ShapedOpen Tryd.prog) : Laid W := by
  have h1 := Lib.laidMet.reads hL (.tail _ (.tail _ (.head _)))
  have h2 := Lib.laidMet.reads hL (.tail _ (.tail _ (.tail _ (.head _))))
  have h3 := Lib.laidMet.reads hL (.tail _ (.tail _ (.tail _ (.tail _ (.head _)))))
  refine ⟨?_, err_at (txt := "") (by kernel_rfl) (by kernel_rfl) h3, err_at (txt := "") (by kernel_rfl) (by kernel_rfl) h2, Tryd.laysM145.s1_3 W hS⟩
  rw [tab_eq] at h1
  obtain ⟨g', t', cs, fuel, p, hg', ht', hvar, hd⟩ := h1
  have hg : Tryd.prog.globalNamed "internal/strconv.uint64pow10" = some 4 := by kernel_rfl
  obtain rfl := Option.some.inj (hg.symm.trans hg')
  obtain rfl := Option.some.inj (tab_ty.symm.trans ht')
  unfold Lib.TabIs
  rw [hvar, ← Lib.cells_of_tab Tryd.underlying117 Tryd.underlying33 (by kernel_rfl) (by kernel_rfl) hd]
noncomputable def laidWorld (os : Os) : World := World.doorLaid Tryd.prog 2000 os
theorem laid_met (os : Os) (args : Array Value) : laidMet Tryd.prog laidL ((laidWorld os).forCall (fun _ _ => 0) ⟨#[], args, []⟩).memory :=
  laidMet_of_run' 8 (by kernel_rfl) (by kernel_rfl)
end Go.Proofs.YtglnifckngcpkaaDoor.Px
