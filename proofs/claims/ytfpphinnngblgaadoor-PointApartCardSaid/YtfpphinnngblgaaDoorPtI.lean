/- What the listed variable gives: the cells of d. -/
import Derived.Test.YtfpphinnngblgaaDoorPt
import Derived.Handed
import Derived.Test.YtfpphinnngblgaaDoorRows
import Derived.ProofKit
import Derived.OpenShut
import Derived.LaidMore
namespace Go.Proofs.YtfpphinnngblgaaDoor.Fld
open Go.ChangeShapes Go.WideShapes Go.ChangeAt Go.RowKit Go.ChangeMaps
open Go.Proofs.YtfpphinnngblgaaDoor.Arr Go.Proofs.YtfpphinnngblgaaDoor.Sym

theorem gD : Tryd.prog.globalNamed "holdall/point.d" = some 0 := by kernel_rfl
theorem tD : (Tryd.prog.globals[0]?).map (·.type) = some 23 := by kernel_rfl
/-- An array of whole numbers, one cell each: its cells. -/
theorem arr_cells {H : Type} {enc : TypeId × Value → H} {P : Program} {w : World} {base : Nat} {sp : Nat → Bool} {held : Bool} {fuel n : Nat} {t e : TypeId} {k : IntKind} {cs : List Value} {q : List MemPlace} {L : List Int}
    (ht : P.underlying t = some (.array n e)) (he : P.underlying e = some (.int k)) (hc : P.cellsOf e = 1)
    (hd : DataW.trod enc P w base sp held fuel t cs = some (.agg (L.map fun x => .lit (.int k x)), q)) (i : Nat) (hi : i < n) (x : Int) (hx : L[i]? = some x) : cs[i]? = some (.int k x) := by
  obtain ⟨xs, m, rfl, hxs, _, _, hel⟩ := DataW.trod_array ht hd
  have h0 := hel i hi
  rw [hc, Nat.mul_one] at h0
  simp only [Prod.mk.injEq, DataW.agg.injEq] at hxs
  have h1 : (L.map fun x => DataW.lit (H := H) (.int k x))[i]? = (xs.map (·.1))[i]? := by rw [hxs.1]
  rw [List.getElem?_map, List.getElem?_map, hx] at h1
  cases hxi : xs[i]? with
  | none => rw [hxi] at h1; cases h1
  | some y =>
    rw [hxi] at h0 h1
    obtain ⟨n', e1, e2, _⟩ := DataW.trod_int he h0
    rw [e2] at h1
    simp only [Option.map_some, Option.some.injEq, DataW.lit.injEq, Lit.int.injEq, true_and] at h1
    subst h1
    have h2 := congrArg (·[0]?) e1
    simp only [List.getElem?_take, List.getElem?_drop] at h2
    simpa using h2

/-- A returning call over worlds as they stand behind start-up. -/
theorem handed {H : Type} {enc : TypeId × Value → H} {os : Os} {f : FuncId} {fn : Func} {s : ChangeSpec} {X : World → Array Value → Prop} (hX : ∀ (w w' : World) (args : Array Value), w.heap = w'.heap → X w args → X w' args)
    (own : ownKnob Tryd.checked.prog.godebug = none) (started : os.Started) (noInit : Tryd.checked.prog.inits.idxOf? f = none) (hfn : Tryd.checked.prog.funcs[f]? = some fn)
    (witness : ∃ (w : World) (tape : Tape) (i : Input), w.os = os ∧ (w.forCall tape i).Shaped Tryd.checked.prog ∧ i.vars = [] ∧ Input.okWide Tryd.checked.prog (w.forCall tape i) .any w.heap.size f i ∧
      ((s.pre enc Tryd.checked.prog fn [] false (w.forCall tape i).memory i.args ∧ X (w.forCall tape i).memory i.args) ∧ sizedMet enc Tryd.checked.prog fn (OpenSpec.ofChange s) false (w.forCall tape i).memory i.args) ∧ ({} : Assume).holds Tryd.checked.prog (lone (Frame.enter Tryd.checked.prog f i.args .normal) [] (w.forCall tape i)))
    (contract : ∀ (W : World) (base : Nat) (args : Array Value) (ds gs : List (DataW H)) (before : List MemPlace),
      (∀ (j : Nat) t v, fn.params[j]? = some t → args[j]? = some v → Value.okWide Tryd.checked.prog W .any base t v) →
      DataW.Whole enc Tryd.checked.prog fn.params.toList s.vars false W args.toList ds gs before → X W args → W.ShapedOpen Tryd.checked.prog →
      Calls Tryd.checked.prog f args W fun e W' => ∃ v, e = .returned v ∧ s.post enc Tryd.checked.prog fn false true false false W args v W') :
    ReturnsInHanded {} Tryd.checked os f .any (fun w args => (s.pre enc Tryd.checked.prog fn [] false w args ∧ X w args) ∧ sizedMet enc Tryd.checked.prog fn (OpenSpec.ofChange s) false w args) (s.post enc Tryd.checked.prog fn false true false false) := by
  refine returnsInHanded_of_calls own started noInit witness ?_
  intro w tape i _ hs _ hok hpre _
  obtain ⟨_, _, _, fn', hfn', _, _, _, _, hval⟩ := hok
  obtain rfl : fn' = fn := Option.some.inj (hfn'.symm.trans hfn)
  obtain ⟨⟨⟨ds, gs, before, hw, hc⟩, hx⟩, hz⟩ := hpre
  refine (contract (w.forCall tape i) w.heap.size i.args ds gs before hval (DataW.Whole.of_heap (w' := w.forCall tape i) (by rfl) hw) (hX _ _ _ (by rfl) hx) hs).mono fun e W' ⟨v, he, hp⟩ => ?_
  subst he
  exact ChangeSpec.post_blind hp
theorem begin_d : ((begin Tryd.prog (fun _ _ => 0) default).world.heap[0]?).bind Obj.row? = some (bs 0, 23) := by kernel_rfl
def dl : List Int := [163, 120, 89, 19, 202, 77, 235, 117, 171, 216, 65, 65, 77, 10, 112, 0, 152, 232, 121, 119, 121, 64, 199, 140, 115, 254, 111, 43, 238, 108, 3, 82]
theorem laid_d : (Rows.laid_holdall_point_d : DataW Unit) = .agg (dl.map fun x => .lit (.int .u8 x)) := by kernel_rfl
theorem dl_at : ∀ j : Nat, j < 32 → dl[j]? = some (bt dN j : Int) := by decide +kernel
def dLaid : List (String × DataW Unit) := [("holdall/point.d", Rows.laid_holdall_point_d)]
theorem cu8 : Tryd.prog.cellsOf 5 = 1 := by kernel_rfl
theorem of_d {W : World} (hs : W.ShapedOpen Tryd.prog) (h : laidMetH Tryd.prog dLaid W) : DD W := by
  rw [MakeChecks.laidMetH_plain _ _ _ (by kernel_rfl)] at h
  obtain ⟨ps, ⟨g0, u0, cs0, f0, p0, q0, hg0, ht0, hv0, hd0, _⟩, _⟩ := h
  obtain rfl := Option.some.inj (gD.symm.trans hg0)
  obtain rfl := Option.some.inj (tD.symm.trans ht0)
  rw [laid_d] at hd0
  have hc : ∀ j, j < 32 → cs0.toList[j]? = some (.int .u8 (bt dN j : Int)) := fun j hj => arr_cells Tryd.underlying23 Tryd.underlying5 cu8 hd0 j hj _ (dl_at j hj)
  obtain ⟨cs, h0, hz, _⟩ := hs.1 0 (bs 0) 23 (by decide +kernel) begin_d
  have e : cs = cs0 := by
    unfold World.var? at hv0
    rw [gD, Option.bind_some, h0] at hv0
    exact Option.some.inj hv0
  subst e
  rw [bs_sz] at hz
  unfold DD Blk
  rw [h0]
  congr 2
  apply Array.ext
  · rw [bs_sz, hz]
  · intro j h1 h2
    have hj : j < 32 := by omega
    have a1 := hc j hj
    have a2 := rowOf_get .u8 (bt dN) 32 j hj
    rw [Array.getElem?_toList, Array.getElem?_eq_getElem h1] at a1
    unfold bs
    rw [Array.getElem?_eq_getElem (by rw [rowOf_size]; exact hj)] at a2
    rw [Option.some.inj a1]
    exact (Option.some.inj a2).symm
theorem met_d (os : Os) (args : Array Value) : laidMetH Tryd.prog dLaid ((World.doorLaid Tryd.prog 400 os).forCall (fun _ _ => 0) ⟨#[], args, []⟩).memory :=
  laidMetH_of_parts3 (fuel := 8) (laidMet_of_run' 8 (by kernel_rfl) (by kernel_rfl)) (by kernel_rfl) (by kernel_rfl)
end Go.Proofs.YtfpphinnngblgaaDoor.Fld
