import Derived.Test.YtnmaaijeamlplaaDoorOp
import Derived.Test.YtnmaaijeamlplaaDoorBkT
set_option linter.unusedVariables false
set_option linter.unusedSimpArgs false
set_option maxRecDepth 100000
namespace Go.Proofs.YtnmaaijeamlplaaDoor.Bk
open Go.ChangeShapes Go.WideShapes Go.ChangeAt Go.RowKit Go.ChangeMaps
open Go.Proofs.YtnmaaijeamlplaaDoor.Mem
instance : Inhabited Wr := ⟨dWr⟩
def okWr (R : Nat) (x : Wr) : Prop := (-9223372036854775808 ≤ x.at_ ∧ x.at_ ≤ 9223372036854775807) ∧ x.data.length ≤ R
theorem opens_Wr {R : Nat} : Opens R Tryd.prog 51 eWr (okWr R) := by
 intro H enc W base held m cs x h hs
 obtain ⟨hl, n, hf⟩ := field_open Tryd.underlying51 h hs
 replace hl : cs.length = 2 := hl.trans (by kernel_rfl)
 match cs, hl with
 | [c0, c1], _ =>
  obtain ⟨y0, q0, s0⟩ := hf 0 _ rfl
  have t0 : DataW.trod enc Tryd.prog W base (fun _ => true) held n 3 (([c0, c1].drop 0).take (Tryd.prog.cellsOf 3)) = some y0 := q0
  rw [show Tryd.prog.cellsOf 3 = 1 from by kernel_rfl] at t0
  replace t0 : DataW.trod enc Tryd.prog W base (fun _ => true) held n 3 [c0] = some y0 := t0
  obtain ⟨z0, e0, k0⟩ := (opens_int Tryd.underlying3) t0 s0
  have g0 := (List.cons.inj e0).1
  obtain ⟨y1, q1, s1⟩ := hf 1 _ rfl
  have t1 : DataW.trod enc Tryd.prog W base (fun _ => true) held n 9 (([c0, c1].drop 1).take (Tryd.prog.cellsOf 9)) = some y1 := q1
  rw [show Tryd.prog.cellsOf 9 = 1 from by kernel_rfl] at t1
  replace t1 : DataW.trod enc Tryd.prog W base (fun _ => true) held n 9 [c1] = some y1 := t1
  obtain ⟨z1, e1, k1⟩ := (opens_string Tryd.underlying9) t1 s1
  have g1 := (List.cons.inj e1).1
  subst g0
  subst g1
  exact ⟨⟨z0, z1⟩, rfl, ⟨k0, k1⟩⟩
set_option maxRecDepth 100000 in
theorem arg_23 {R : Nat} {H : Type} {enc : TypeId × Value → H} {W : World} {base : Nat} {held : Bool} {r : Reach} {b0 : Nat} {v : Value} {d : DataW H} {p : List MemPlace} (hval : Value.okWide Tryd.prog W r b0 23 v) (h : DataW.Trod enc Tryd.prog W base (fun _ => true) held 23 v d p) (hs : Small R Tryd.prog 23 d) :
  ∃ l : List Wr, Rs eWr 2 l v W ∧ ((∀ y ∈ l, okWr R y) ∧ l.length * 24 ≤ R) := by
 obtain ⟨a, len, cap, rfl⟩ := okWide_slice Tryd.underlying23 hval
 obtain ⟨fuel, hf⟩ := h
 exact (open_rs (ok := fun y => okWr R y) Tryd.underlying23 (k := 2) (b := 24) (by kernel_rfl) (by kernel_rfl) (by decide) eWr_len opens_Wr) hf hs
def okDk (R : Nat) (x : Dk) : Prop := ((∀ y ∈ x.safe, y.length ≤ R) ∧ x.safe.length * 16 ≤ R) ∧ ((∀ y ∈ x.loose, okWr R y) ∧ x.loose.length * 24 ≤ R) ∧ (-9223372036854775808 ≤ x.fuse ∧ x.fuse ≤ 9223372036854775807) ∧ True
theorem arg_Dk {R : Nat} {H : Type} {enc : TypeId × Value → H} {W : World} {base : Nat} {held : Bool} {r : Reach} {b0 : Nat} {v : Value} {d : DataW H} {p : List MemPlace} (hval : Value.okWide Tryd.prog W r b0 25 v) (h : DataW.Trod enc Tryd.prog W base (fun _ => true) held 25 v d p) (hs : Small R Tryd.prog 25 d) :
  ∃ (x : Dk) (v0 : Value) (v1 : Value), v = .agg #[v0, v1, J (x.fuse), .bool (x.down)] ∧ DkR x v0 v1 W ∧ okDk R x := by
 obtain ⟨⟨cs⟩, rfl, hsz⟩ := okWide_struct Tryd.underlying25 hval
 obtain ⟨fuel, hh⟩ := h
 obtain ⟨hl, n, hf⟩ := field_open Tryd.underlying25 hh hs
 replace hl : cs.length = 4 := hl.trans (by kernel_rfl)
 match cs, hl with
 | [c0, c1, c2, c3], _ =>
  simp only [Value.cells] at hf
  obtain ⟨y0, q0, s0⟩ := hf 0 _ rfl
  have t0 : DataW.trod enc Tryd.prog W base (fun _ => true) held n 22 (([c0, c1, c2, c3].drop 0).take (Tryd.prog.cellsOf 22)) = some y0 := q0
  rw [show Tryd.prog.cellsOf 22 = 1 from by kernel_rfl] at t0
  replace t0 : DataW.trod enc Tryd.prog W base (fun _ => true) held n 22 [c0] = some y0 := t0
  obtain ⟨z0, r0, k0⟩ := (open_rs (ok := fun y => y.length ≤ R) Tryd.underlying22 (k := 1) (b := 16) (by kernel_rfl) (by kernel_rfl) (by decide) eS_len (opens_string Tryd.underlying9)) t0 s0
  obtain ⟨y1, q1, s1⟩ := hf 1 _ rfl
  have t1 : DataW.trod enc Tryd.prog W base (fun _ => true) held n 23 (([c0, c1, c2, c3].drop 1).take (Tryd.prog.cellsOf 23)) = some y1 := q1
  rw [show Tryd.prog.cellsOf 23 = 1 from by kernel_rfl] at t1
  replace t1 : DataW.trod enc Tryd.prog W base (fun _ => true) held n 23 [c1] = some y1 := t1
  obtain ⟨z1, r1, k1⟩ := (open_rs (ok := fun y => okWr R y) Tryd.underlying23 (k := 2) (b := 24) (by kernel_rfl) (by kernel_rfl) (by decide) eWr_len opens_Wr) t1 s1
  obtain ⟨y2, q2, s2⟩ := hf 2 _ rfl
  have t2 : DataW.trod enc Tryd.prog W base (fun _ => true) held n 3 (([c0, c1, c2, c3].drop 2).take (Tryd.prog.cellsOf 3)) = some y2 := q2
  rw [show Tryd.prog.cellsOf 3 = 1 from by kernel_rfl] at t2
  replace t2 : DataW.trod enc Tryd.prog W base (fun _ => true) held n 3 [c2] = some y2 := t2
  obtain ⟨z2, e2, k2⟩ := (opens_int Tryd.underlying3) t2 s2
  have g2 := (List.cons.inj e2).1
  obtain ⟨y3, q3, s3⟩ := hf 3 _ rfl
  have t3 : DataW.trod enc Tryd.prog W base (fun _ => true) held n 4 (([c0, c1, c2, c3].drop 3).take (Tryd.prog.cellsOf 4)) = some y3 := q3
  rw [show Tryd.prog.cellsOf 4 = 1 from by kernel_rfl] at t3
  replace t3 : DataW.trod enc Tryd.prog W base (fun _ => true) held n 4 [c3] = some y3 := t3
  obtain ⟨z3, e3, k3⟩ := (opens_bool Tryd.underlying4) t3 s3
  have g3 := (List.cons.inj e3).1
  subst g2
  subst g3
  exact ⟨⟨z0, z1, z2, z3⟩, c0, c1, rfl, ⟨r0, r1⟩, ⟨k0, k1, k2, k3⟩⟩
end Go.Proofs.YtnmaaijeamlplaaDoor.Bk
