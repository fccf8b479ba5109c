import Derived.Test.YtnmaaijeamlplaaDoorReK
import Derived.Test.YtnmaaijeamlplaaDoorRows
import Derived.ProofKit
import Derived.OpenShut
import Derived.LaidMore
set_option linter.unusedVariables false
set_option linter.unusedSimpArgs false
namespace Go.Proofs.YtnmaaijeamlplaaDoor.Sha
open Go.ChangeShapes Go.WideShapes Go.ChangeAt Go.RowKit
theorem gK : Tryd.prog.globalNamed "holdall/digest.k" = some 0 := by kernel_rfl
theorem gT : Tryd.prog.globalNamed "holdall/holdallref01.table" = some 1 := by kernel_rfl
theorem arr_cells {H : Type} {enc : TypeId × Value → H} {P : Program} {w : World} {base : Nat} {sp : Nat → Bool} {held : Bool} {fuel n : Nat} {t e : TypeId} {k : IntKind} {cs : List Value} {q : List MemPlace} {L : List Int}
  (ht : P.underlying t = some (.array n e)) (he : P.underlying e = some (.int k)) (hc : P.cellsOf e = 1)
  (hd : DataW.trod enc P w base sp held fuel t cs = some (.agg (L.map fun x => .lit (.int k x)), q)) (i : Nat) (hi : i < n) (x : Int) (hx : L[i]? = some x) : cs[i]? = some (.int k x) := by
 obtain ⟨xs, m, rfl, hxs, _, _, hel⟩ := DataW.trod_array ht hd
 have h0 := hel i hi
 rw [hc, Nat.mul_one] at h0
 simp only [Prod.mk.injEq, DataW.agg.injEq] at hxs
 have h1 : (L.map fun x => DataW.lit (H := H) (.int k x))[i]? = (xs.map (·.1))[i]? := by rw [hxs.1]
 rw [List.getElem?_map, List.getElem?_map, hx] at h1
 cases hxi : xs[i]? with
 | none => rw [hxi] at h1; cases h1
 | some y =>
  rw [hxi] at h0 h1
  obtain ⟨n', e1, e2, _⟩ := DataW.trod_int he h0
  rw [e2] at h1
  simp only [Option.map_some, Option.some.injEq, DataW.lit.injEq, Lit.int.injEq, true_and] at h1
  subst h1
  have h2 := congrArg (·[0]?) e1
  simp only [List.getElem?_take, List.getElem?_drop] at h2
  simpa using h2
theorem laid_k : (Rows.laid_holdall_digest_k : DataW Unit) = .agg ((ktab.map nt).map fun x => .lit (.int .u32 x)) := by kernel_rfl
theorem laid_t : (Rows.laid_holdall_holdallref01_table : DataW Unit) = .agg ((ktab.map nt).map fun x => .lit (.int .u32 x)) := by kernel_rfl
theorem ktab_at (j : Nat) (h : j < 64) : (ktab.map nt)[j]? = some (nt (kt j)) := by
 have hl : ktab.length = 64 := by decide +kernel
 rw [List.getElem?_map, List.getElem?_eq_getElem (by omega)]
 unfold kt
 rw [List.getD_eq_getElem?_getD, List.getElem?_eq_getElem (by omega)]; rfl
def one : List (String × DataW Unit) := [("holdall/digest.k", Rows.laid_holdall_digest_k)]
def two : List (String × DataW Unit) := [("holdall/holdallref01.table", Rows.laid_holdall_holdallref01_table), ("holdall/digest.k", Rows.laid_holdall_digest_k)]
theorem kt_of {W : World} {g : Nat} {nm : String} {t : TypeId} {cs : Array Value} {fuel : Nat} {q : List MemPlace} {e : TypeId} {enc : TypeId × Value → Unit} {base : Nat} {sp : Nat → Bool} {held : Bool}
  (hg : Tryd.prog.globalNamed nm = some g) (ht : Tryd.prog.underlying t = some (.array 64 e)) (he : Tryd.prog.underlying e = some (.int .u32)) (hc : Tryd.prog.cellsOf e = 1)
  (hv : W.var? Tryd.prog nm = some cs) (hd : DataW.trod enc Tryd.prog W base sp held fuel t cs.toList = some (.agg ((ktab.map nt).map fun x => .lit (.int .u32 x)), q)) : KT g W := by
 intro j hj
 rw [World.var?_cell hg hv j]
 have := arr_cells ht he hc hd j hj _ (ktab_at j hj)
 simpa using this
theorem t0 : (Tryd.prog.globals[0]?).map (·.type) = some 111 := by kernel_rfl
theorem t1 : (Tryd.prog.globals[1]?).map (·.type) = some 111 := by kernel_rfl
theorem c33 : Tryd.prog.cellsOf 100 = 1 := by kernel_rfl
theorem of_two {W : World} (h : laidMetH Tryd.prog two W) : KT 0 W ∧ KT 1 W := by
 rw [MakeChecks.laidMetH_plain _ _ _ (by kernel_rfl)] at h
 obtain ⟨ps, ⟨g0, u0, cs0, f0, p0, q0, hg0, ht0, hv0, hd0, ⟨g1, u1, cs1, f1, p1, q1, hg1, ht1, hv1, hd1, _⟩, _⟩, _⟩ := h
 obtain rfl := Option.some.inj (gT.symm.trans hg0)
 obtain rfl := Option.some.inj (t1.symm.trans ht0)
 obtain rfl := Option.some.inj (gK.symm.trans hg1)
 obtain rfl := Option.some.inj (t0.symm.trans ht1)
 rw [laid_t] at hd0
 rw [laid_k] at hd1
 exact ⟨kt_of hg1 Tryd.underlying111 Tryd.underlying100 c33 hv1 hd1, kt_of hg0 Tryd.underlying111 Tryd.underlying100 c33 hv0 hd0⟩
theorem met_two (os : Os) (args : Array Value) : laidMetH Tryd.prog two ((World.doorLaid Tryd.prog 400 os).forCall (fun _ _ => 0) ⟨#[], args, []⟩).memory :=
 laidMetH_of_parts3 (fuel := 8) (laidMet_of_run' 8 (by kernel_rfl) (by kernel_rfl)) (by kernel_rfl) (by kernel_rfl)
theorem laid_of {W : World} (hL : laidMetH Tryd.prog two W) (hS : W.ShapedOpen Tryd.prog) : Bk.Laid2 W := ⟨⟨(of_two hL).1⟩, (of_two hL).2⟩
theorem laid_met (os : Os) (args : Array Value) : laidMetH Tryd.prog two ((World.doorLaid Tryd.prog 400 os).forCall (fun _ _ => 0) ⟨#[], args, []⟩).memory := met_two os args
end Go.Proofs.YtnmaaijeamlplaaDoor.Sha
