/- Of a disk with a fuse just as many operations are done; then the power is off, and nothing is done any more: BlockFuse returns true. Condition: the disk and the writes are together of bulk at most 1048576 (uptoSmall). -/
import Derived.Test.YtmammofbgllceaaRows
import Derived.Test.YtmammofbgllceaaBkX
import Derived.Test.YtmammofbgllceaaBkI
import Derived.Test.YtmammofbgllceaaUp
import Derived.WalkKit
import Derived.ProofKit
import Derived.OpenShut
import Derived.ChangeMaps5
import Derived.Carry
import Derived.SizedLaws
import Derived.JoinedCond
namespace Go.Proofs.Ytmammofbgllceaa.blockFuse
open Go.ChangeShapes Go.WideShapes Go.ChangeAt Go.RowKit Go.ChangeMaps
open Go.Proofs.Ytmammofbgllceaa Go.Proofs.Ytmammofbgllceaa.Bk
open Go.Proofs.Ytmammofbgllceaa.Mem
set_option linter.unusedVariables false

theorem own : ownKnob Try.prog.godebug = none := by kernel_rfl
theorem laidOut : laidOutB Try.prog = true := by kernel_rfl
set_option maxRecDepth 100000 in
theorem contract (H : Type) (enc : TypeId × Value → H) (W : World) (base : Nat) (args : Array Value) (ds gs : List (DataW H)) (before : List MemPlace)
    (hval0 : ∀ (j : Nat) t v, Try.f6.params[j]? = some t → args[j]? = some v → Value.okWide Try.prog W .any base t v)
    (hW : DataW.Whole enc Try.prog Try.f6.params.toList Rows.blockFuseSpec.vars false W args.toList ds gs before) (hk : Rows.uptoSmall H (ds ++ gs) = true) :
    Calls Try.prog 6 args W fun e W' => ∃ v, e = .returned v ∧ Rows.blockFuseSpec.post enc Try.prog Try.f6 false true false false W args v W' := by
  have hsz0 := ()
  have hval : ∀ (j : Nat) t v, Try.f6.params[j]? = some t → args[j]? = some v → Value.okWide Try.prog W .any base t v := hval0
  have hsz : ∀ (j : Nat) t d, Try.f6.params[j]? = some t → ds[j]? = some d → Small 268435456 Try.prog t d := fun j t d ht hd => Up.up_small hk (L := [3, 4, 5, 9, 22, 23, 25, 42]) (by kernel_rfl) (by rw [Try.params6] at ht; have hm := Array.mem_of_getElem? ht; simp only [List.mem_toArray, List.mem_cons, List.not_mem_nil, or_false] at hm; rcases hm with rfl | rfl | rfl <;> decide) (List.mem_append.2 (.inl (List.mem_of_getElem? hd)))
  have hW' := hW
  obtain ⟨p, q, hA0, hV, rfl, hfz, hnd⟩ := hW
  have hA : DataW.TrodAll enc Try.prog W 0 (fun _ => true) true Try.f6.params.toList args.toList ds p := hA0
  rw [Try.params6] at hA hval hsz
  obtain ⟨v0, vs0, d0, ds0, p0, q0, hargs, rfl, rfl, h0, r0⟩ := trodAll_cons hA
  obtain ⟨v1, vs1, d1, ds1, p1, q1, rfl, rfl, rfl, h1, r1⟩ := trodAll_cons r0
  obtain ⟨v2, vs2, d2, ds2, p2, q2, rfl, rfl, rfl, h2, r2⟩ := trodAll_cons r1
  obtain ⟨rfl, rfl, rfl⟩ := trodAll_nil r2
  obtain rfl : args = #[v0, v1, v2] := by cases args; simp_all
  obtain ⟨rfl, rfl⟩ := trodVars_none hV
  have h0k := h0
  have hlt0 : ∀ y ∈ p0, y.block < W.heap.size := fun y hy => hW'.lt y (by simp [hy])
  have sm0 := hsz 0 25 d0 rfl rfl
  have h1k := h1
  have hlt1 : ∀ y ∈ p1, y.block < W.heap.size := fun y hy => hW'.lt y (by simp [hy])
  have sm1 := hsz 1 5 d1 rfl rfl
  have h2k := h2
  have hlt2 : ∀ y ∈ p2, y.block < W.heap.size := fun y hy => hW'.lt y (by simp [hy])
  have sm2 := hsz 2 23 d2 rfl rfl
  obtain ⟨x0, x0v0, x0v1, rfl, rx0, kx0⟩ := arg_Dk (hval 0 25 v0 rfl rfl) h0 sm0
  simp only [okDk] at kx0
  obtain ⟨x1, rfl⟩ : ∃ b : UInt8, v1 = bv b := by
    obtain ⟨a, rfl, rfl, rfl, m⟩ := open_int Try.underlying5 (hval 1 5 v1 rfl rfl) h1
    have hb := bounds_u8 m
    exact ⟨UInt8.ofNat a.toNat, by unfold bv; congr 1; simp; omega⟩
  obtain ⟨x2, rx2, kx2⟩ := arg_23 (hval 2 23 v2 rfl rfl) h2 sm2
  skip
  clear hA0 hval0 hsz0 hsz
  simp only [List.append_nil] at hW'
  have hwk := fuse_any x0 x1 x2 x0v0 x0v1 v2 W rx0 rx2 (by first | omega | (have := kx0; omega)) (by first | omega | (have := kx0; omega)) (by first | omega | (have := kx0; omega))
  rw [fuse_true] at hwk
  refine hwk.mono fun e W' ⟨he, hg⟩ => ?_
  subst he
  exact ⟨_, rfl, _, _, _, [], _, [], hW', (trodAll_cons_mk (shut_bool Try.underlying4 _) trodAll_mk0), (trodAll_cons_mk (Below.trod laidOut (by kernel_rfl) (of_decide_eq_true (by kernel_rfl)) h0k hg hlt0) (trodAll_cons_mk (Below.trod laidOut (by kernel_rfl) (of_decide_eq_true (by kernel_rfl)) h1k hg hlt1) (trodAll_cons_mk (Below.trod laidOut (by kernel_rfl) (of_decide_eq_true (by kernel_rfl)) h2k hg hlt2) trodAll_mk0))), rfl, hg.frame _, fun h => by cases h⟩

set_option maxRecDepth 100000 in
theorem lifted (os : Os) (started : os.Started) (H : Type) (enc : TypeId × Value → H) (F : Stop.Interp) :
    ReturnsInHanded {} Try.checked os 6 .any ((Rows.OpenSpec.upto Rows.blockFuseSpec).pre6 enc Try.prog Try.f6 Rows.blockFuseUptoRow.domain false) (((Rows.OpenSpec.upto Rows.blockFuseSpec).at F).post enc Try.prog Try.f6 false true false false) := by
  refine returnsInHanded_of_cond (C := Try.checked) (s := Rows.OpenSpec.upto Rows.blockFuseSpec) (k := Rows.uptoSmall) rfl own started (by kernel_rfl) Try.func6
    (OpenSpec.witness (enc := enc) (C := Try.checked) (s := Rows.OpenSpec.upto Rows.blockFuseSpec) (k := Rows.uptoSmall) rfl false ⟨#[], #[.agg #[.slice none 0 0, .slice none 0 0, .int .i64 0, .bool false], .int .u8 0, .slice none 0 0], []⟩ 8 (by kernel_rfl) (by kernel_rfl) (by kernel_rfl)
      (x := ([.agg [.nil, .nil, .lit (.int .i64 0), .lit (.bool false)], .lit (.int .u8 0), .nil], [], [])) (by kernel_rfl) rfl (by kernel_rfl)) ?_
  intro W base args ds gs before hval hW _ hk _
  exact contract H enc W base args ds gs before hval hW hk

/-- The statement. -/
theorem proved : Rows.BlockFuseUptoSaid :=
  OpenClaim.holds_of_cond 6 Try.f6 rfl rfl rfl rfl rfl rfl rfl ⟨rfl, rfl, rfl, rfl, rfl⟩ rfl rfl rfl rfl rfl (by kernel_rfl) Try.func6 (by kernel_rfl)
    (of_decide_eq_true (by kernel_rfl)) (by unfold Func.isWrapper; first | (rw [if_pos (by decide +kernel)]; kernel_rfl) | (rw [if_neg (by decide +kernel)]; exact ⟨rfl, rfl⟩))
    (fun os started H enc _ F => lifted os started H enc F)
#print axioms proved
end Go.Proofs.Ytmammofbgllceaa.blockFuse
