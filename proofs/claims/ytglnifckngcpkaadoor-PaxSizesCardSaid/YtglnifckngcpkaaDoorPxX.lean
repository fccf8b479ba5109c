/- Layer 10: what comes in. -/
import Derived.Test.YtglnifckngcpkaaDoorOp
import Derived.Test.YtglnifckngcpkaaDoorPxT
set_option linter.unusedVariables false
namespace Go.Proofs.YtglnifckngcpkaaDoor.Px
open Go.ChangeShapes Go.WideShapes Go.ChangeAt Go.RowKit Go.ChangeMaps
open Go.Proofs.YtglnifckngcpkaaDoor.Mem
instance : Inhabited Par := ⟨dPar⟩
def okPar (R : Nat) (x : Par) : Prop := x.key.length ≤ R ∧ x.value.length ≤ R
set_option maxRecDepth 100000 in
theorem opens_Par {R : Nat} : Opens R Tryd.prog 47 ePar (okPar R) := by
  intro H enc W base held m cs x h hs
  obtain ⟨hl, n, hf⟩ := field_open Tryd.underlying47 h hs
  replace hl : cs.length = 2 := hl.trans (by kernel_rfl)
  match cs, hl with
  | [c0, c1], _ =>
    obtain ⟨y0, q0, s0⟩ := hf 0 _ rfl
    have t0 : DataW.trod enc Tryd.prog W base (fun _ => true) held n 9 (([c0, c1].drop 0).take (Tryd.prog.cellsOf 9)) = some y0 := q0
    rw [show Tryd.prog.cellsOf 9 = 1 from by kernel_rfl] at t0
    replace t0 : DataW.trod enc Tryd.prog W base (fun _ => true) held n 9 [c0] = some y0 := t0
    obtain ⟨z0, e0, k0⟩ := (opens_string Tryd.underlying9) t0 s0
    have g0 := (List.cons.inj e0).1
    obtain ⟨y1, q1, s1⟩ := hf 1 _ rfl
    have t1 : DataW.trod enc Tryd.prog W base (fun _ => true) held n 9 (([c0, c1].drop 1).take (Tryd.prog.cellsOf 9)) = some y1 := q1
    rw [show Tryd.prog.cellsOf 9 = 1 from by kernel_rfl] at t1
    replace t1 : DataW.trod enc Tryd.prog W base (fun _ => true) held n 9 [c1] = some y1 := t1
    obtain ⟨z1, e1, k1⟩ := (opens_string Tryd.underlying9) t1 s1
    have g1 := (List.cons.inj e1).1
    subst g0
    subst g1
    exact ⟨⟨z0, z1⟩, rfl, ⟨k0, k1⟩⟩
set_option maxRecDepth 100000 in
theorem arg_Par {R : Nat} {H : Type} {enc : TypeId × Value → H} {W : World} {base : Nat} {held : Bool} {r : Reach} {b0 : Nat} {v : Value} {d : DataW H} {p : List MemPlace} (hval : Value.okWide Tryd.prog W r b0 47 v) (h : DataW.Trod enc Tryd.prog W base (fun _ => true) held 47 v d p) (hs : Small R Tryd.prog 47 d) :
    ∃ (x : Par), v = .agg #[.string (tx x.key), .string (tx x.value)] ∧ okPar R x := by
  obtain ⟨⟨cs⟩, rfl, hsz⟩ := okWide_struct Tryd.underlying47 hval
  obtain ⟨fuel, hh⟩ := h
  obtain ⟨hl, n, hf⟩ := field_open Tryd.underlying47 hh hs
  replace hl : cs.length = 2 := hl.trans (by kernel_rfl)
  match cs, hl with
  | [c0, c1], _ =>
    simp only [Value.cells] at hf
    obtain ⟨y0, q0, s0⟩ := hf 0 _ rfl
    have t0 : DataW.trod enc Tryd.prog W base (fun _ => true) held n 9 (([c0, c1].drop 0).take (Tryd.prog.cellsOf 9)) = some y0 := q0
    rw [show Tryd.prog.cellsOf 9 = 1 from by kernel_rfl] at t0
    replace t0 : DataW.trod enc Tryd.prog W base (fun _ => true) held n 9 [c0] = some y0 := t0
    obtain ⟨z0, e0, k0⟩ := (opens_string Tryd.underlying9) t0 s0
    have g0 := (List.cons.inj e0).1
    obtain ⟨y1, q1, s1⟩ := hf 1 _ rfl
    have t1 : DataW.trod enc Tryd.prog W base (fun _ => true) held n 9 (([c0, c1].drop 1).take (Tryd.prog.cellsOf 9)) = some y1 := q1
    rw [show Tryd.prog.cellsOf 9 = 1 from by kernel_rfl] at t1
    replace t1 : DataW.trod enc Tryd.prog W base (fun _ => true) held n 9 [c1] = some y1 := t1
    obtain ⟨z1, e1, k1⟩ := (opens_string Tryd.underlying9) t1 s1
    have g1 := (List.cons.inj e1).1
    subst g0
    subst g1
    exact ⟨⟨z0, z1⟩, rfl, ⟨k0, k1⟩⟩
set_option maxRecDepth 100000 in
theorem arg_36 {R : Nat} {H : Type} {enc : TypeId × Value → H} {W : World} {base : Nat} {held : Bool} {r : Reach} {b0 : Nat} {v : Value} {d : DataW H} {p : List MemPlace} (hval : Value.okWide Tryd.prog W r b0 36 v) (h : DataW.Trod enc Tryd.prog W base (fun _ => true) held 36 v d p) (hs : Small R Tryd.prog 36 d) :
    ∃ l : List Par, Rs ePar 2 l v W ∧ ((∀ y ∈ l, okPar R y) ∧ l.length * 32 ≤ R) := by
  obtain ⟨a, len, cap, rfl⟩ := okWide_slice Tryd.underlying36 hval
  obtain ⟨fuel, hf⟩ := h
  exact (open_rs (ok := fun y => okPar R y) Tryd.underlying36 (k := 2) (b := 32) (by kernel_rfl) (by kernel_rfl) (by decide) ePar_len opens_Par) hf hs
end Go.Proofs.YtglnifckngcpkaaDoor.Px
