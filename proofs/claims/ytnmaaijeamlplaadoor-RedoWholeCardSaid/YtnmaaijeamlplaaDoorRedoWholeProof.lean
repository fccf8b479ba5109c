/- Wherever the power goes off, in a commit, and in recoveries, however often, and whatever is kept: behind a recovery all writes are there, or none; all, if the commit was told done: RedoWhole returns true, for all numbers, pairs of lists of writes, and falls. Conditions: the listed variable starts as the program's text lays it. -/
import Derived.Test.YtnmaaijeamlplaaDoorRows
import Derived.Test.YtnmaaijeamlplaaDoorGw
import Derived.Test.YtnmaaijeamlplaaDoorKI
import Derived.Test.YtnmaaijeamlplaaDoorCards
import Derived.Test.YtnmaaijeamlplaaDoorTie
import Derived.WalkKit
import Derived.ProofKit
import Derived.OpenShut
import Derived.ChangeMaps5
import Derived.Carry
import Derived.SizedLaws
import Derived.Deep.DeepHandedRow
import Derived.Deep.DeepWitnessRowRef
import Derived.SevenTiedAt
set_option linter.all false
namespace Go.Proofs.YtnmaaijeamlplaaDoor.redoWhole
open Go.ChangeShapes Go.WideShapes Go.ChangeAt Go.RowKit Go.ChangeMaps
open Go.Proofs.YtnmaaijeamlplaaDoor Go.Proofs.YtnmaaijeamlplaaDoor.Ev
open Go.Proofs.YtnmaaijeamlplaaDoor.Mem
set_option linter.unusedVariables false
set_option maxRecDepth 100000

theorem own : ownKnob Tryd.prog.godebug = none := by kernel_rfl
theorem laidOut : laidOutB Tryd.prog = true := by kernel_rfl
theorem contract (H : Type) (enc : TypeId × Value → H) (W : World) (base : Nat) (args : Array Value) (ds gs : List (DataW H)) (before : List MemPlace)
    (hval0 : ∀ (j : Nat) t v, Tryd.f5.params[j]? = some t → args[j]? = some v → Value.okWide Tryd.prog W .any base t v)
    (hW : DataW.Whole enc Tryd.prog Tryd.f5.params.toList Rows.redoWholeSpec.vars false W args.toList ds gs before) (hsz0 : (DataW.weightsEach Tryd.prog (Tryd.f5.params.toList ++ (OpenSpec.ofChange Rows.redoWholeSpec).bare.plain.varTypes Tryd.prog) (ds ++ gs)).all (· ≤ reachBytes) = true) (hT : LL W) :
    Calls Tryd.prog 5 args W fun e W' => ∃ v, e = .returned v ∧ Rows.redoWholeSpec.post enc Tryd.prog Tryd.f5 false true false false W args v W' := by
  have hval : ∀ (j : Nat) t v, Tryd.f5.params[j]? = some t → args[j]? = some v → Value.okWide Tryd.prog W .any base t v := hval0
  have hsz : ∀ (j : Nat) t d, Tryd.f5.params[j]? = some t → ds[j]? = some d → Small reachBytes Tryd.prog t d := fun j t d ht hd => fun n hn => of_decide_eq_true (List.all_eq_true.1 hsz0 n (DataW.weights_mem_each (j := j) (t := t) (d := d) (by rw [List.getElem?_append_left (by have := (Array.getElem?_eq_some_iff.1 ht).1; simpa using this)]; simpa using ht) (by rw [List.getElem?_append_left ((List.getElem?_eq_some_iff.1 hd).1)]; exact hd) n hn))
  have hW' := hW
  obtain ⟨p, q, hA0, hV, rfl, hfz, hnd⟩ := hW
  have hA : DataW.TrodAll enc Tryd.prog W 0 (fun _ => true) true Tryd.f5.params.toList args.toList ds p := hA0
  rw [Tryd.params5] at hA hval hsz
  obtain ⟨v0, vs0, d0, ds0, p0, q0, hargs, rfl, rfl, h0, r0⟩ := trodAll_cons hA
  obtain ⟨v1, vs1, d1, ds1, p1, q1, rfl, rfl, rfl, h1, r1⟩ := trodAll_cons r0
  obtain ⟨v2, vs2, d2, ds2, p2, q2, rfl, rfl, rfl, h2, r2⟩ := trodAll_cons r1
  obtain ⟨rfl, rfl, rfl⟩ := trodAll_nil r2
  obtain rfl : args = #[v0, v1, v2] := by cases args; simp_all
  obtain ⟨rfl, rfl⟩ := trodVars_none hV
  have h0k := h0
  have hlt0 : ∀ y ∈ p0, y.block < W.heap.size := fun y hy => hW'.lt y (by simp [hy])
  have sm0 := hsz 0 5 d0 rfl rfl
  have h1k := h1
  have hlt1 : ∀ y ∈ p1, y.block < W.heap.size := fun y hy => hW'.lt y (by simp [hy])
  have sm1 := hsz 1 40 d1 rfl rfl
  have h2k := h2
  have hlt2 : ∀ y ∈ p2, y.block < W.heap.size := fun y hy => hW'.lt y (by simp [hy])
  have sm2 := hsz 2 41 d2 rfl rfl
  obtain ⟨n0, rfl⟩ := okWide_int Tryd.underlying5 (hval 0 5 v0 rfl rfl)
  obtain ⟨x0, kx0, rx0⟩ := arg_one (opv_u8 Tryd.underlying5) (fun _ => rfl) rfl h0 sm0
  obtain ⟨c1, rfl, _⟩ := okWide_array Tryd.underlying40 (hval 1 40 v1 rfl rfl)
  obtain ⟨x1, kx1, rx1⟩ := arg_ag (o_two) (fun _ => rfl) h1 sm1
  obtain ⟨a2, l2, c2, rfl⟩ := okWide_slice Tryd.underlying41 (hval 2 41 v2 rfl rfl)
  obtain ⟨x2, kx2, rx2⟩ := arg_one (o_Falls) (fun _ => rfl) rfl h2 sm2
  clear hA0 hval0 hsz
  simp only [List.append_nil] at hW'
  have hwk := Spec.calls (whole_ok x0 x1 x2 (by simp only [reachBytes] at kx1; omega) (by simp only [reachBytes] at kx1; omega) kx2.1 (by have := kx2.2; simp only [reachBytes] at this; omega)) hT (xs := #[.int .u8 n0, .agg c1, .slice a2 l2 c2]) rfl (S := In W) (fun q y v h1 h2 => match q, h1, h2 with | 0, h1, h2 => by obtain rfl := Option.some.inj h1; obtain rfl := Option.some.inj h2; exact rx0 | 1, h1, h2 => by obtain rfl := Option.some.inj h1; obtain rfl := Option.some.inj h2; exact rx1 | 2, h1, h2 => by obtain rfl := Option.some.inj h1; obtain rfl := Option.some.inj h2; exact rx2 | q + 3, h1, _ => by simp at h1) (fun g hg => hg)
  refine hwk.mono fun e W' ⟨v, F', he, hg, hr⟩ => ?_
  obtain rfl := hr.b_inv
  subst he
  exact ⟨_, rfl, _, _, _, [], _, [], hW', (trodAll_cons_mk (shut_bool Tryd.underlying4 _) trodAll_mk0), (trodAll_cons_mk (Below.trod laidOut (by kernel_rfl) (of_decide_eq_true (by kernel_rfl)) h0k hg hlt0) (trodAll_cons_mk (Below.trod laidOut (by kernel_rfl) (of_decide_eq_true (by kernel_rfl)) h1k hg hlt1) (trodAll_cons_mk (Below.trod laidOut (by kernel_rfl) (of_decide_eq_true (by kernel_rfl)) h2k hg hlt2) trodAll_mk0))), rfl, hg.frame _, fun h => by cases h⟩

theorem witness_row (os : Os) {H : Type} (enc : TypeId × Value → H) :
    (OpenSpec.ofChange Rows.redoWholeSpec).preRow enc Tryd.prog Tryd.f5 Rows.redoWholeRow.domain false Rows.redoWholeRow.laid (((World.doorLaid Tryd.prog 400) os).forCall (fun _ _ => 0) ⟨#[], #[.int .u8 0, .agg #[.slice none 0 0, .slice none 0 0], .slice none 0 0], []⟩).memory #[.int .u8 0, .agg #[.slice none 0 0, .slice none 0 0], .slice none 0 0] := by
  have hw : (DataW.whole enc Tryd.prog (((World.doorLaid Tryd.prog 400) os).forCall (fun _ _ => 0) ⟨#[], #[.int .u8 0, .agg #[.slice none 0 0, .slice none 0 0], .slice none 0 0], []⟩).memory Tryd.f5.params.toList (OpenSpec.ofChange Rows.redoWholeSpec).vars false #[.int .u8 0, .agg #[.slice none 0 0, .slice none 0 0], .slice none 0 0].toList 8).map (fun x => (x.1, x.2.1)) =
      some ([.lit (.int .u8 0), .agg [.nil, .nil], .nil], []) := by kernel_rfl
  obtain ⟨⟨x1, x2, x3⟩, hx, hx1⟩ := Option.map_eq_some_iff.1 hw
  simp only [Prod.mk.injEq] at hx1
  obtain ⟨rfl, rfl⟩ := hx1
  exact OpenSpec.preRow_of_cond 8 hx (by kernel_rfl) (fun k hk => by cases hk) (by kernel_rfl) (laid_met1 os _)

theorem lifted (os : Os) (started : os.Started) (H : Type) (enc : TypeId × Value → H) (F : Stop.Interp) :
    ReturnsInHanded {} Tryd.checked os 5 .any ((OpenSpec.ofChange Rows.redoWholeSpec).preRow enc Tryd.prog Tryd.f5 Rows.redoWholeRow.domain false Rows.redoWholeRow.laid) (((OpenSpec.ofChange Rows.redoWholeSpec).at F).post enc Tryd.prog Tryd.f5 false true false false) := by
  refine returnsInHanded_of_row (C := Tryd.checked) (s := (OpenSpec.ofChange Rows.redoWholeSpec)) own started (by kernel_rfl) Tryd.func5
    (witness_row_atRef (enc := enc) (C := Tryd.checked) false ((World.doorLaid Tryd.prog 400) os) #[.int .u8 0, .agg #[.slice none 0 0, .slice none 0 0], .slice none 0 0] rfl (by kernel_rfl) (by kernel_rfl) (by kernel_rfl) (witness_row os enc)) ?_
  intro W base args ds gs before hval hW _ hcond hsz hL hS _
  exact contract H enc W base args ds gs before hval hW hsz (laid_of1 hL hS)

theorem said : Rows.RedoWholeSaid :=
  OpenClaim.holds_of_cond 5 Tryd.f5 rfl rfl rfl rfl rfl rfl rfl ⟨rfl, rfl, rfl, rfl, rfl⟩ rfl rfl rfl rfl rfl (by kernel_rfl) Tryd.func5 (by kernel_rfl)
    (of_decide_eq_true (by kernel_rfl)) (by unfold Func.isWrapper; first | (rw [if_pos (by decide +kernel)]; kernel_rfl) | (rw [if_neg (by decide +kernel)]; exact ⟨rfl, rfl⟩))
    (fun os started H enc _ F => by rw [OpenClaim.pre_eq_preRow]; exact lifted os started H enc F)
theorem plain (f : FuncId) (fn : Func) (hf : Tryd.pinned.checked.prog.funcNamed "holdall/holdalllaw16.RedoWhole" = some f) (hfn : Tryd.pinned.checked.prog.funcs[f]? = some fn) :
    false = Tryd.pinned.checked.prog.looks [] ∧ ∀ (j : Nat) t, fn.params[j]? = some t → Tryd.pinned.checked.prog.wantsStandIn t = false := by
  obtain rfl : f = 5 := Option.some.inj ((show Tryd.prog.funcNamed "holdall/holdalllaw16.RedoWhole" = some 5 by kernel_rfl).symm.trans hf) |>.symm
  obtain rfl : fn = Tryd.f5 := (Option.some.inj (Tryd.func5.symm.trans hfn)).symm
  exact ⟨by kernel_rfl, fun j t ht => by
    rw [Tryd.params5] at ht
    have hm : t ∈ [5, 40, 41] := by simpa using Array.mem_of_getElem? ht
    have hall : ([5, 40, 41].all fun u => !Tryd.prog.wantsStandIn u) = true := by kernel_rfl
    exact (show Tryd.prog.wantsStandIn t = false by simpa using List.all_eq_true.1 hall t hm)⟩
/-- The statement: the tied card. -/
theorem proved : Rows.RedoWholeCardSaid :=
  Claim7.holds_tied_plain_at .later [] _ _ _ _ said (fun _ h => by cases h) (by kernel_rfl) (fun _ h => by cases h) redoWhole_row_tie rfl ⟨rfl, rfl⟩ (by kernel_rfl) rfl plain (by kernel_rfl)
#print axioms proved
end Go.Proofs.YtnmaaijeamlplaaDoor.redoWhole
