/- The openers of members, and what the laid tables give. -/
import Derived.Test.YtikmkgoeepgbkaaGreatDoorTt
import Derived.Test.YtikmkgoeepgbkaaGreatDoorKI
import Derived.Test.YtikmkgoeepgbkaaGreatDoorRows
import Derived.Lib.LaidIn
import Derived.Lib.LaidU8T
import Derived.Lib.LaidTab
import Derived.LaidLaws
import Derived.LaidMore
import Derived.Deep.DeepHandedRow
import Derived.ProofKit
set_option linter.all false
namespace Go.Proofs.YtikmkgoeepgbkaaGreatDoor.Ev
open Go.ChangeShapes Go.WideShapes Go.ChangeAt Go.RowKit Go.ChangeMaps
open Go.Proofs.YtikmkgoeepgbkaaGreatDoor.Mem
open Go.Shelf
set_option linter.unusedVariables false
set_option maxRecDepth 100000
theorem o_Mbr : OpV reachBytes Tryz.prog 28 8 eMbr Mbr.Arg := by
  intro H enc W base held m c x h hs
  obtain ⟨hl, n, hf⟩ := field_open Tryz.underlying28 h hs
  obtain ⟨y0, k0, r0⟩ := opv_field (off := 0) (opv_string Tryz.underlying9) (by kernel_rfl) (hf 0 _ rfl)
  obtain ⟨y1, k1, r1⟩ := opv_field (off := 1) (opv_int Tryz.underlying3) (by kernel_rfl) (hf 1 _ rfl)
  obtain ⟨y2, k2, r2⟩ := opv_field (off := 2) (opv_int Tryz.underlying3) (by kernel_rfl) (hf 2 _ rfl)
  obtain ⟨y3, k3, r3⟩ := opv_field (off := 3) (opv_int Tryz.underlying3) (by kernel_rfl) (hf 3 _ rfl)
  obtain ⟨y4, k4, r4⟩ := opv_field (off := 4) (opv_int Tryz.underlying3) (by kernel_rfl) (hf 4 _ rfl)
  obtain ⟨y5, k5, r5⟩ := opv_field (off := 5) (opv_int Tryz.underlying3) (by kernel_rfl) (hf 5 _ rfl)
  obtain ⟨y6, k6, r6⟩ := opv_field (off := 6) (opv_string Tryz.underlying9) (by kernel_rfl) (hf 6 _ rfl)
  obtain ⟨y7, k7, r7⟩ := opv_field (off := 7) (opv_string Tryz.underlying9) (by kernel_rfl) (hf 7 _ rfl)
  simp only [reachBytes] at k0 k6 k7
  refine ⟨⟨y0, y1, y2, y3, y4, y5, y6, y7⟩, ?_, hl.trans (by kernel_rfl), by have r := reps_cons (off := 0) r0 rfl (reps_cons (off := 1) r1 rfl (reps_cons (off := 2) r2 rfl (reps_cons (off := 3) r3 rfl (reps_cons (off := 4) r4 rfl (reps_cons (off := 5) r5 rfl (reps_cons (off := 6) r6 rfl (reps_cons (off := 7) r7 rfl (reps_nil W _)))))))); rw [List.drop_zero] at r; exact r⟩
  simp only [Lit.wf, Bool.and_eq_true, decide_eq_true_eq] at k5
  have h2 : IntKind.i64.max = 9223372036854775807 := rfl
  rw [h2] at k5
  exact ⟨⟨by dsimp only; omega, by dsimp only; omega, by dsimp only; omega⟩, by dsimp only; omega⟩
theorem o_Mbrs : OpV reachBytes Tryz.prog 22 1 (fun l : List Mbr => V.sl 8 Mbr dMb l eMbr) (fun l => (∀ x ∈ l, x.Arg) ∧ l.length * 88 ≤ reachBytes) :=
  opv_slice (ev := eMbr) (k := 8) (b := 88) Tryz.underlying22 (by kernel_rfl) (by kernel_rfl) (by decide) (fun _ => rfl) (fun _ _ => rfl) dMb o_Mbr
/-! ### The laid tables -/
def laidL : List (String × DataW Unit) := [("math/bits.deBruijn32tab", Rows.laid_math_bits_deBruijn32tab), ("math/bits.deBruijn64tab", Rows.laid_math_bits_deBruijn64tab), ("internal/strconv.uint64pow10", Rows.laid_internal_strconv_uint64pow10), ("unicode/utf8.acceptRanges", Rows.laid_unicode_utf8_acceptRanges), ("strconv.ErrRange", Rows.laid_strconv_ErrRange), ("strconv.ErrSyntax", Rows.laid_strconv_ErrSyntax), ("holdall/header.widths", Rows.laid_holdall_header_widths), ("unicode/utf8.first", Rows.laid_unicode_utf8_first)]
theorem acc_eq : (Rows.laid_unicode_utf8_acceptRanges : DataW Unit) = Lib.acceptData := by kernel_rfl
theorem fst_eq : Rows.laid_unicode_utf8_first = Lib.firstData := by kernel_rfl
theorem tab_eq : (Rows.laid_internal_strconv_uint64pow10 : DataW Unit) = Lib.tabData .u64 Lib.pow10Tab := by kernel_rfl
theorem tab_ty : (Tryz.prog.globals[6]?).map (·.type) = some 190 := by kernel_rfl
theorem wid_eq : (Rows.laid_holdall_header_widths : DataW Unit) = Lib.tabData .i64 [8, 8, 8, 12, 12] := by kernel_rfl
theorem wid_ty : (Tryz.prog.globals[0]?).map (·.type) = some 122 := by kernel_rfl
theorem if_e : Tryz.prog.underlying 81 = some (.interface (Tryz.prog.methodsAt 81)) := by kernel_rfl
theorem err_at {W : World} {nm : String} {g : Nat} {d : DataW Unit} {name : String} (hg : Tryz.prog.globalNamed nm = some g) (hty : (Tryz.prog.globals[g]?).map (·.type) = some 81) (h : Lib.VarReads Tryz.prog W nm (.iface name d)) : ∃ te pe, W.cell? ⟨g, 0, none⟩ = some (.iface te pe) := by
  obtain ⟨g', t', cs, fuel, p, hg', ht', hvar, hd⟩ := h
  obtain rfl := Option.some.inj (hg.symm.trans hg')
  obtain rfl := Option.some.inj (hty.symm.trans ht')
  obtain ⟨n, u, v, e2, e1, _⟩ := iface_of_trod if_e hd
  have h0 := World.var?_cell hg hvar 0
  have e3 : cs[0]? = some (.iface u v) := by
    have := congrArg (·[0]?) e2
    simpa using this
  exact ⟨u, v, h0.trans e3⟩
theorem laid_ofM {W : World} (hL : laidMetH Tryz.prog laidL W) (hS : W.ShapedOpen Tryz.prog) : LL W := by
  have h1 := Lib.laidMet.reads hL (.tail _ (.tail _ (.head _)))
  have h2 := Lib.laidMet.reads hL (.tail _ (.tail _ (.tail _ (.head _))))
  have h3 := Lib.laidMet.reads hL (.tail _ (.tail _ (.tail _ (.tail _ (.head _)))))
  have h4 := Lib.laidMet.reads hL (.tail _ (.tail _ (.tail _ (.tail _ (.tail _ (.head _))))))
  have h6 := Lib.laidMet.reads hL (.tail _ (.tail _ (.tail _ (.tail _ (.tail _ (.tail _ (.head _)))))))
  have h5 := Lib.laidMet.reads hL (.tail _ (.tail _ (.tail _ (.tail _ (.tail _ (.tail _ (.tail _ (.head _))))))))
  rw [fst_eq] at h5
  rw [acc_eq] at h2
  refine ⟨⟨utf8Tabs_of_readsT (U8Types.of196 Tryz.laysValid) ⟨by kernel_rfl, by kernel_rfl, by kernel_rfl, by kernel_rfl, by kernel_rfl, by kernel_rfl, by kernel_rfl⟩ h5 h2, Tryz.laysM145.s1_3 W hS⟩, ⟨?_, ?_⟩, err_at (by kernel_rfl) (by kernel_rfl) h4, err_at (by kernel_rfl) (by kernel_rfl) h3⟩
  · rw [tab_eq] at h1
    obtain ⟨g', t', cs, fuel, p, hg', ht', hvar, hd⟩ := h1
    have hg : Tryz.prog.globalNamed "internal/strconv.uint64pow10" = some 6 := by kernel_rfl
    obtain rfl := Option.some.inj (hg.symm.trans hg')
    obtain rfl := Option.some.inj (tab_ty.symm.trans ht')
    unfold Lib.TabIs
    rw [hvar, ← Lib.cells_of_tab Tryz.underlying190 Tryz.underlying35 (by kernel_rfl) (by kernel_rfl) hd]
  · rw [wid_eq] at h6
    obtain ⟨g', t', cs, fuel, p, hg', ht', hvar, hd⟩ := h6
    have hg : Tryz.prog.globalNamed "holdall/header.widths" = some 0 := by kernel_rfl
    obtain rfl := Option.some.inj (hg.symm.trans hg')
    obtain rfl := Option.some.inj (wid_ty.symm.trans ht')
    unfold Lib.TabIs
    rw [hvar, ← Lib.cells_of_tab Tryz.underlying122 Tryz.underlying3 (by kernel_rfl) (by kernel_rfl) hd]
noncomputable def laidWorld (os : Os) : World :=
  let w0 := World.doorLaid Tryz.prog 4000 os
  { w0 with heap := w0.heap.modify 1 fun
    | .cells _ t frozen => .cells (Lib.firstTab.map fun z => Value.int .u8 z).toArray t frozen
    | o => o }
theorem laid_metM (os : Os) (args : Array Value) : laidMet Tryz.prog laidL ((laidWorld os).forCall (fun _ _ => 0) ⟨#[], args, []⟩).memory :=
  laidMet_of_run' 8 (by kernel_rfl) (by kernel_rfl)
end Go.Proofs.YtikmkgoeepgbkaaGreatDoor.Ev
