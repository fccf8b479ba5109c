/- Layer 20: what comes in. -/
import Derived.Test.YtpbenhfnebgbiaaDoorOpN
import Derived.Test.YtpbenhfnebgbiaaDoorSoK
set_option linter.unusedVariables false
namespace Go.Proofs.YtpbenhfnebgbiaaDoor.So
open Go.ChangeShapes Go.WideShapes Go.ChangeAt Go.RowKit Go.ChangeMaps
open Go.Proofs.YtpbenhfnebgbiaaDoor.Mem Go.Proofs.YtpbenhfnebgbiaaDoor.Pa
instance : Inhabited Rul := ⟨dRul⟩
instance : Inhabited Ent5 := ⟨dEnt5⟩
def okRul (R : Nat) (x : Rul) : Prop := x.name.length ≤ R ∧ (-9223372036854775808 ≤ x.op ∧ x.op ≤ 9223372036854775807) ∧ x.version.length ≤ R
set_option maxRecDepth 100000 in
theorem opens_Rul {R : Nat} : Opens R Tryd.prog 24 eRul (okRul R) := by
  intro H enc W base held m cs x h hs
  obtain ⟨hl, n, hf⟩ := field_open Tryd.underlying24 h hs
  replace hl : cs.length = 3 := hl.trans (by kernel_rfl)
  match cs, hl with
  | [c0, c1, c2], _ =>
    obtain ⟨y0, q0, s0⟩ := hf 0 _ rfl
    have t0 : DataW.trod enc Tryd.prog W base (fun _ => true) held n 9 (([c0, c1, c2].drop 0).take (Tryd.prog.cellsOf 9)) = some y0 := q0
    rw [show Tryd.prog.cellsOf 9 = 1 from by kernel_rfl] at t0
    replace t0 : DataW.trod enc Tryd.prog W base (fun _ => true) held n 9 [c0] = some y0 := t0
    obtain ⟨z0, e0, k0⟩ := (opens_string Tryd.underlying9) t0 s0
    have g0 := (List.cons.inj e0).1
    obtain ⟨y1, q1, s1⟩ := hf 1 _ rfl
    have t1 : DataW.trod enc Tryd.prog W base (fun _ => true) held n 3 (([c0, c1, c2].drop 1).take (Tryd.prog.cellsOf 3)) = some y1 := q1
    rw [show Tryd.prog.cellsOf 3 = 1 from by kernel_rfl] at t1
    replace t1 : DataW.trod enc Tryd.prog W base (fun _ => true) held n 3 [c1] = some y1 := t1
    obtain ⟨z1, e1, k1⟩ := (opens_int Tryd.underlying3) t1 s1
    have g1 := (List.cons.inj e1).1
    obtain ⟨y2, q2, s2⟩ := hf 2 _ rfl
    have t2 : DataW.trod enc Tryd.prog W base (fun _ => true) held n 9 (([c0, c1, c2].drop 2).take (Tryd.prog.cellsOf 9)) = some y2 := q2
    rw [show Tryd.prog.cellsOf 9 = 1 from by kernel_rfl] at t2
    replace t2 : DataW.trod enc Tryd.prog W base (fun _ => true) held n 9 [c2] = some y2 := t2
    obtain ⟨z2, e2, k2⟩ := (opens_string Tryd.underlying9) t2 s2
    have g2 := (List.cons.inj e2).1
    subst g0
    subst g1
    subst g2
    exact ⟨⟨z0, z1, z2⟩, rfl, ⟨k0, k1, k2⟩⟩
set_option maxRecDepth 100000 in
theorem arg_Rul {R : Nat} {H : Type} {enc : TypeId × Value → H} {W : World} {base : Nat} {held : Bool} {r : Reach} {b0 : Nat} {v : Value} {d : DataW H} {p : List MemPlace} (hval : Value.okWide Tryd.prog W r b0 24 v) (h : DataW.Trod enc Tryd.prog W base (fun _ => true) held 24 v d p) (hs : Small R Tryd.prog 24 d) :
    ∃ (x : Rul), v = .agg #[.string (tx x.name), .int .i64 (x.op), .string (tx x.version)] ∧ okRul R x := by
  obtain ⟨⟨cs⟩, rfl, hsz⟩ := okWide_struct Tryd.underlying24 hval
  obtain ⟨fuel, hh⟩ := h
  obtain ⟨hl, n, hf⟩ := field_open Tryd.underlying24 hh hs
  replace hl : cs.length = 3 := hl.trans (by kernel_rfl)
  match cs, hl with
  | [c0, c1, c2], _ =>
    simp only [Value.cells] at hf
    obtain ⟨y0, q0, s0⟩ := hf 0 _ rfl
    have t0 : DataW.trod enc Tryd.prog W base (fun _ => true) held n 9 (([c0, c1, c2].drop 0).take (Tryd.prog.cellsOf 9)) = some y0 := q0
    rw [show Tryd.prog.cellsOf 9 = 1 from by kernel_rfl] at t0
    replace t0 : DataW.trod enc Tryd.prog W base (fun _ => true) held n 9 [c0] = some y0 := t0
    obtain ⟨z0, e0, k0⟩ := (opens_string Tryd.underlying9) t0 s0
    have g0 := (List.cons.inj e0).1
    obtain ⟨y1, q1, s1⟩ := hf 1 _ rfl
    have t1 : DataW.trod enc Tryd.prog W base (fun _ => true) held n 3 (([c0, c1, c2].drop 1).take (Tryd.prog.cellsOf 3)) = some y1 := q1
    rw [show Tryd.prog.cellsOf 3 = 1 from by kernel_rfl] at t1
    replace t1 : DataW.trod enc Tryd.prog W base (fun _ => true) held n 3 [c1] = some y1 := t1
    obtain ⟨z1, e1, k1⟩ := (opens_int Tryd.underlying3) t1 s1
    have g1 := (List.cons.inj e1).1
    obtain ⟨y2, q2, s2⟩ := hf 2 _ rfl
    have t2 : DataW.trod enc Tryd.prog W base (fun _ => true) held n 9 (([c0, c1, c2].drop 2).take (Tryd.prog.cellsOf 9)) = some y2 := q2
    rw [show Tryd.prog.cellsOf 9 = 1 from by kernel_rfl] at t2
    replace t2 : DataW.trod enc Tryd.prog W base (fun _ => true) held n 9 [c2] = some y2 := t2
    obtain ⟨z2, e2, k2⟩ := (opens_string Tryd.underlying9) t2 s2
    have g2 := (List.cons.inj e2).1
    subst g0
    subst g1
    subst g2
    exact ⟨⟨z0, z1, z2⟩, rfl, ⟨k0, k1, k2⟩⟩
def okEnt5 (R : Nat) (x : Ent5) : Prop := (-9223372036854775808 ≤ x.kind ∧ x.kind ≤ 9223372036854775807) ∧ (-9223372036854775808 ≤ x.mode ∧ x.mode ≤ 9223372036854775807) ∧ x.sum.length ≤ R ∧ x.path.length ≤ R ∧ x.target.length ≤ R
set_option maxRecDepth 100000 in
theorem opens_Ent5 {R : Nat} : Opens R Tryd.prog 120 eEnt5 (okEnt5 R) := by
  intro H enc W base held m cs x h hs
  obtain ⟨hl, n, hf⟩ := field_open Tryd.underlying120 h hs
  replace hl : cs.length = 5 := hl.trans (by kernel_rfl)
  match cs, hl with
  | [c0, c1, c2, c3, c4], _ =>
    obtain ⟨y0, q0, s0⟩ := hf 0 _ rfl
    have t0 : DataW.trod enc Tryd.prog W base (fun _ => true) held n 3 (([c0, c1, c2, c3, c4].drop 0).take (Tryd.prog.cellsOf 3)) = some y0 := q0
    rw [show Tryd.prog.cellsOf 3 = 1 from by kernel_rfl] at t0
    replace t0 : DataW.trod enc Tryd.prog W base (fun _ => true) held n 3 [c0] = some y0 := t0
    obtain ⟨z0, e0, k0⟩ := (opens_int Tryd.underlying3) t0 s0
    have g0 := (List.cons.inj e0).1
    obtain ⟨y1, q1, s1⟩ := hf 1 _ rfl
    have t1 : DataW.trod enc Tryd.prog W base (fun _ => true) held n 3 (([c0, c1, c2, c3, c4].drop 1).take (Tryd.prog.cellsOf 3)) = some y1 := q1
    rw [show Tryd.prog.cellsOf 3 = 1 from by kernel_rfl] at t1
    replace t1 : DataW.trod enc Tryd.prog W base (fun _ => true) held n 3 [c1] = some y1 := t1
    obtain ⟨z1, e1, k1⟩ := (opens_int Tryd.underlying3) t1 s1
    have g1 := (List.cons.inj e1).1
    obtain ⟨y2, q2, s2⟩ := hf 2 _ rfl
    have t2 : DataW.trod enc Tryd.prog W base (fun _ => true) held n 9 (([c0, c1, c2, c3, c4].drop 2).take (Tryd.prog.cellsOf 9)) = some y2 := q2
    rw [show Tryd.prog.cellsOf 9 = 1 from by kernel_rfl] at t2
    replace t2 : DataW.trod enc Tryd.prog W base (fun _ => true) held n 9 [c2] = some y2 := t2
    obtain ⟨z2, e2, k2⟩ := (opens_string Tryd.underlying9) t2 s2
    have g2 := (List.cons.inj e2).1
    obtain ⟨y3, q3, s3⟩ := hf 3 _ rfl
    have t3 : DataW.trod enc Tryd.prog W base (fun _ => true) held n 9 (([c0, c1, c2, c3, c4].drop 3).take (Tryd.prog.cellsOf 9)) = some y3 := q3
    rw [show Tryd.prog.cellsOf 9 = 1 from by kernel_rfl] at t3
    replace t3 : DataW.trod enc Tryd.prog W base (fun _ => true) held n 9 [c3] = some y3 := t3
    obtain ⟨z3, e3, k3⟩ := (opens_string Tryd.underlying9) t3 s3
    have g3 := (List.cons.inj e3).1
    obtain ⟨y4, q4, s4⟩ := hf 4 _ rfl
    have t4 : DataW.trod enc Tryd.prog W base (fun _ => true) held n 9 (([c0, c1, c2, c3, c4].drop 4).take (Tryd.prog.cellsOf 9)) = some y4 := q4
    rw [show Tryd.prog.cellsOf 9 = 1 from by kernel_rfl] at t4
    replace t4 : DataW.trod enc Tryd.prog W base (fun _ => true) held n 9 [c4] = some y4 := t4
    obtain ⟨z4, e4, k4⟩ := (opens_string Tryd.underlying9) t4 s4
    have g4 := (List.cons.inj e4).1
    subst g0
    subst g1
    subst g2
    subst g3
    subst g4
    exact ⟨⟨z0, z1, z2, z3, z4⟩, rfl, ⟨k0, k1, k2, k3, k4⟩⟩
set_option maxRecDepth 100000 in
theorem arg_Ent5 {R : Nat} {H : Type} {enc : TypeId × Value → H} {W : World} {base : Nat} {held : Bool} {r : Reach} {b0 : Nat} {v : Value} {d : DataW H} {p : List MemPlace} (hval : Value.okWide Tryd.prog W r b0 120 v) (h : DataW.Trod enc Tryd.prog W base (fun _ => true) held 120 v d p) (hs : Small R Tryd.prog 120 d) :
    ∃ (x : Ent5), v = .agg #[.int .i64 (x.kind), .int .i64 (x.mode), .string (tx x.sum), .string (tx x.path), .string (tx x.target)] ∧ okEnt5 R x := by
  obtain ⟨⟨cs⟩, rfl, hsz⟩ := okWide_struct Tryd.underlying120 hval
  obtain ⟨fuel, hh⟩ := h
  obtain ⟨hl, n, hf⟩ := field_open Tryd.underlying120 hh hs
  replace hl : cs.length = 5 := hl.trans (by kernel_rfl)
  match cs, hl with
  | [c0, c1, c2, c3, c4], _ =>
    simp only [Value.cells] at hf
    obtain ⟨y0, q0, s0⟩ := hf 0 _ rfl
    have t0 : DataW.trod enc Tryd.prog W base (fun _ => true) held n 3 (([c0, c1, c2, c3, c4].drop 0).take (Tryd.prog.cellsOf 3)) = some y0 := q0
    rw [show Tryd.prog.cellsOf 3 = 1 from by kernel_rfl] at t0
    replace t0 : DataW.trod enc Tryd.prog W base (fun _ => true) held n 3 [c0] = some y0 := t0
    obtain ⟨z0, e0, k0⟩ := (opens_int Tryd.underlying3) t0 s0
    have g0 := (List.cons.inj e0).1
    obtain ⟨y1, q1, s1⟩ := hf 1 _ rfl
    have t1 : DataW.trod enc Tryd.prog W base (fun _ => true) held n 3 (([c0, c1, c2, c3, c4].drop 1).take (Tryd.prog.cellsOf 3)) = some y1 := q1
    rw [show Tryd.prog.cellsOf 3 = 1 from by kernel_rfl] at t1
    replace t1 : DataW.trod enc Tryd.prog W base (fun _ => true) held n 3 [c1] = some y1 := t1
    obtain ⟨z1, e1, k1⟩ := (opens_int Tryd.underlying3) t1 s1
    have g1 := (List.cons.inj e1).1
    obtain ⟨y2, q2, s2⟩ := hf 2 _ rfl
    have t2 : DataW.trod enc Tryd.prog W base (fun _ => true) held n 9 (([c0, c1, c2, c3, c4].drop 2).take (Tryd.prog.cellsOf 9)) = some y2 := q2
    rw [show Tryd.prog.cellsOf 9 = 1 from by kernel_rfl] at t2
    replace t2 : DataW.trod enc Tryd.prog W base (fun _ => true) held n 9 [c2] = some y2 := t2
    obtain ⟨z2, e2, k2⟩ := (opens_string Tryd.underlying9) t2 s2
    have g2 := (List.cons.inj e2).1
    obtain ⟨y3, q3, s3⟩ := hf 3 _ rfl
    have t3 : DataW.trod enc Tryd.prog W base (fun _ => true) held n 9 (([c0, c1, c2, c3, c4].drop 3).take (Tryd.prog.cellsOf 9)) = some y3 := q3
    rw [show Tryd.prog.cellsOf 9 = 1 from by kernel_rfl] at t3
    replace t3 : DataW.trod enc Tryd.prog W base (fun _ => true) held n 9 [c3] = some y3 := t3
    obtain ⟨z3, e3, k3⟩ := (opens_string Tryd.underlying9) t3 s3
    have g3 := (List.cons.inj e3).1
    obtain ⟨y4, q4, s4⟩ := hf 4 _ rfl
    have t4 : DataW.trod enc Tryd.prog W base (fun _ => true) held n 9 (([c0, c1, c2, c3, c4].drop 4).take (Tryd.prog.cellsOf 9)) = some y4 := q4
    rw [show Tryd.prog.cellsOf 9 = 1 from by kernel_rfl] at t4
    replace t4 : DataW.trod enc Tryd.prog W base (fun _ => true) held n 9 [c4] = some y4 := t4
    obtain ⟨z4, e4, k4⟩ := (opens_string Tryd.underlying9) t4 s4
    have g4 := (List.cons.inj e4).1
    subst g0
    subst g1
    subst g2
    subst g3
    subst g4
    exact ⟨⟨z0, z1, z2, z3, z4⟩, rfl, ⟨k0, k1, k2, k3, k4⟩⟩
def okMf (R : Nat) (x : Mf) : Prop := x.name.length ≤ R ∧ x.version.length ≤ R ∧ ((∀ y ∈ x.needs, okRul R y) ∧ x.needs.length * 40 ≤ R) ∧ ((∀ y ∈ x.clashes, okRul R y) ∧ x.clashes.length * 40 ≤ R) ∧ ((∀ y ∈ x.entries, okEnt5 R y) ∧ x.entries.length * 64 ≤ R)
set_option maxRecDepth 100000 in
theorem opens_Mf {R : Nat} {H : Type} {enc : TypeId × Value → H} {W : World} {base : Nat} {held : Bool} {m : Nat} {cs : List Value} {x : DataW H × List MemPlace} (h : DataW.trod enc Tryd.prog W base (fun _ => true) held m 37 cs = some x) (hs : Small R Tryd.prog 37 x.1) :
    ∃ (y : Mf) (u : Value × Value × Value), cs = nMf (y, u) ∧ MfN y u W ∧ okMf R y := by
  obtain ⟨hl, n, hf⟩ := field_open Tryd.underlying37 h hs
  replace hl : cs.length = 5 := hl.trans (by kernel_rfl)
  match cs, hl with
  | [c0, c1, c2, c3, c4], _ =>
    obtain ⟨y0, q0, s0⟩ := hf 0 _ rfl
    have t0 : DataW.trod enc Tryd.prog W base (fun _ => true) held n 9 (([c0, c1, c2, c3, c4].drop 0).take (Tryd.prog.cellsOf 9)) = some y0 := q0
    rw [show Tryd.prog.cellsOf 9 = 1 from by kernel_rfl] at t0
    replace t0 : DataW.trod enc Tryd.prog W base (fun _ => true) held n 9 [c0] = some y0 := t0
    obtain ⟨z0, e0, k0⟩ := (opens_string Tryd.underlying9) t0 s0
    have g0 := (List.cons.inj e0).1
    obtain ⟨y1, q1, s1⟩ := hf 1 _ rfl
    have t1 : DataW.trod enc Tryd.prog W base (fun _ => true) held n 9 (([c0, c1, c2, c3, c4].drop 1).take (Tryd.prog.cellsOf 9)) = some y1 := q1
    rw [show Tryd.prog.cellsOf 9 = 1 from by kernel_rfl] at t1
    replace t1 : DataW.trod enc Tryd.prog W base (fun _ => true) held n 9 [c1] = some y1 := t1
    obtain ⟨z1, e1, k1⟩ := (opens_string Tryd.underlying9) t1 s1
    have g1 := (List.cons.inj e1).1
    obtain ⟨y2, q2, s2⟩ := hf 2 _ rfl
    have t2 : DataW.trod enc Tryd.prog W base (fun _ => true) held n 28 (([c0, c1, c2, c3, c4].drop 2).take (Tryd.prog.cellsOf 28)) = some y2 := q2
    rw [show Tryd.prog.cellsOf 28 = 1 from by kernel_rfl] at t2
    replace t2 : DataW.trod enc Tryd.prog W base (fun _ => true) held n 28 [c2] = some y2 := t2
    obtain ⟨z2, r2, k2⟩ := (open_rs (ok := fun y => okRul R y) Tryd.underlying28 (k := 3) (b := 40) (by kernel_rfl) (by kernel_rfl) (by decide) eRul_len opens_Rul) t2 s2
    obtain ⟨y3, q3, s3⟩ := hf 3 _ rfl
    have t3 : DataW.trod enc Tryd.prog W base (fun _ => true) held n 28 (([c0, c1, c2, c3, c4].drop 3).take (Tryd.prog.cellsOf 28)) = some y3 := q3
    rw [show Tryd.prog.cellsOf 28 = 1 from by kernel_rfl] at t3
    replace t3 : DataW.trod enc Tryd.prog W base (fun _ => true) held n 28 [c3] = some y3 := t3
    obtain ⟨z3, r3, k3⟩ := (open_rs (ok := fun y => okRul R y) Tryd.underlying28 (k := 3) (b := 40) (by kernel_rfl) (by kernel_rfl) (by decide) eRul_len opens_Rul) t3 s3
    obtain ⟨y4, q4, s4⟩ := hf 4 _ rfl
    have t4 : DataW.trod enc Tryd.prog W base (fun _ => true) held n 35 (([c0, c1, c2, c3, c4].drop 4).take (Tryd.prog.cellsOf 35)) = some y4 := q4
    rw [show Tryd.prog.cellsOf 35 = 1 from by kernel_rfl] at t4
    replace t4 : DataW.trod enc Tryd.prog W base (fun _ => true) held n 35 [c4] = some y4 := t4
    obtain ⟨z4, r4, k4⟩ := (open_rs (ok := fun y => okEnt5 R y) Tryd.underlying35 (k := 5) (b := 64) (by kernel_rfl) (by kernel_rfl) (by decide) eEnt5_len opens_Ent5) t4 s4
    subst g0
    subst g1
    exact ⟨⟨z0, z1, z2, z3, z4⟩, (c2, c3, c4), rfl, ⟨r2, r3, r4⟩, ⟨k0, k1, k2, k3, k4⟩⟩
set_option maxRecDepth 100000 in
theorem arg_Mf {R : Nat} {H : Type} {enc : TypeId × Value → H} {W : World} {base : Nat} {held : Bool} {r : Reach} {b0 : Nat} {v : Value} {d : DataW H} {p : List MemPlace} (hval : Value.okWide Tryd.prog W r b0 37 v) (h : DataW.Trod enc Tryd.prog W base (fun _ => true) held 37 v d p) (hs : Small R Tryd.prog 37 d) :
    ∃ (x : Mf) (v0 : Value) (v1 : Value) (v2 : Value), v = .agg #[.string (tx x.name), .string (tx x.version), v0, v1, v2] ∧ MfR x v0 v1 v2 W ∧ okMf R x := by
  obtain ⟨⟨cs⟩, rfl, hsz⟩ := okWide_struct Tryd.underlying37 hval
  obtain ⟨fuel, hh⟩ := h
  obtain ⟨hl, n, hf⟩ := field_open Tryd.underlying37 hh hs
  replace hl : cs.length = 5 := hl.trans (by kernel_rfl)
  match cs, hl with
  | [c0, c1, c2, c3, c4], _ =>
    simp only [Value.cells] at hf
    obtain ⟨y0, q0, s0⟩ := hf 0 _ rfl
    have t0 : DataW.trod enc Tryd.prog W base (fun _ => true) held n 9 (([c0, c1, c2, c3, c4].drop 0).take (Tryd.prog.cellsOf 9)) = some y0 := q0
    rw [show Tryd.prog.cellsOf 9 = 1 from by kernel_rfl] at t0
    replace t0 : DataW.trod enc Tryd.prog W base (fun _ => true) held n 9 [c0] = some y0 := t0
    obtain ⟨z0, e0, k0⟩ := (opens_string Tryd.underlying9) t0 s0
    have g0 := (List.cons.inj e0).1
    obtain ⟨y1, q1, s1⟩ := hf 1 _ rfl
    have t1 : DataW.trod enc Tryd.prog W base (fun _ => true) held n 9 (([c0, c1, c2, c3, c4].drop 1).take (Tryd.prog.cellsOf 9)) = some y1 := q1
    rw [show Tryd.prog.cellsOf 9 = 1 from by kernel_rfl] at t1
    replace t1 : DataW.trod enc Tryd.prog W base (fun _ => true) held n 9 [c1] = some y1 := t1
    obtain ⟨z1, e1, k1⟩ := (opens_string Tryd.underlying9) t1 s1
    have g1 := (List.cons.inj e1).1
    obtain ⟨y2, q2, s2⟩ := hf 2 _ rfl
    have t2 : DataW.trod enc Tryd.prog W base (fun _ => true) held n 28 (([c0, c1, c2, c3, c4].drop 2).take (Tryd.prog.cellsOf 28)) = some y2 := q2
    rw [show Tryd.prog.cellsOf 28 = 1 from by kernel_rfl] at t2
    replace t2 : DataW.trod enc Tryd.prog W base (fun _ => true) held n 28 [c2] = some y2 := t2
    obtain ⟨z2, r2, k2⟩ := (open_rs (ok := fun y => okRul R y) Tryd.underlying28 (k := 3) (b := 40) (by kernel_rfl) (by kernel_rfl) (by decide) eRul_len opens_Rul) t2 s2
    obtain ⟨y3, q3, s3⟩ := hf 3 _ rfl
    have t3 : DataW.trod enc Tryd.prog W base (fun _ => true) held n 28 (([c0, c1, c2, c3, c4].drop 3).take (Tryd.prog.cellsOf 28)) = some y3 := q3
    rw [show Tryd.prog.cellsOf 28 = 1 from by kernel_rfl] at t3
    replace t3 : DataW.trod enc Tryd.prog W base (fun _ => true) held n 28 [c3] = some y3 := t3
    obtain ⟨z3, r3, k3⟩ := (open_rs (ok := fun y => okRul R y) Tryd.underlying28 (k := 3) (b := 40) (by kernel_rfl) (by kernel_rfl) (by decide) eRul_len opens_Rul) t3 s3
    obtain ⟨y4, q4, s4⟩ := hf 4 _ rfl
    have t4 : DataW.trod enc Tryd.prog W base (fun _ => true) held n 35 (([c0, c1, c2, c3, c4].drop 4).take (Tryd.prog.cellsOf 35)) = some y4 := q4
    rw [show Tryd.prog.cellsOf 35 = 1 from by kernel_rfl] at t4
    replace t4 : DataW.trod enc Tryd.prog W base (fun _ => true) held n 35 [c4] = some y4 := t4
    obtain ⟨z4, r4, k4⟩ := (open_rs (ok := fun y => okEnt5 R y) Tryd.underlying35 (k := 5) (b := 64) (by kernel_rfl) (by kernel_rfl) (by decide) eEnt5_len opens_Ent5) t4 s4
    subst g0
    subst g1
    exact ⟨⟨z0, z1, z2, z3, z4⟩, c2, c3, c4, rfl, ⟨r2, r3, r4⟩, ⟨k0, k1, k2, k3, k4⟩⟩
set_option maxRecDepth 100000 in
theorem arg_22 {R : Nat} {H : Type} {enc : TypeId × Value → H} {W : World} {base : Nat} {held : Bool} {r : Reach} {b0 : Nat} {v : Value} {d : DataW H} {p : List MemPlace} (hval : Value.okWide Tryd.prog W r b0 22 v) (h : DataW.Trod enc Tryd.prog W base (fun _ => true) held 22 v d p) (hs : Small R Tryd.prog 22 d) :
    ∃ (l : List Mf) (u : List (Value × Value × Value)), Rn nMf 5 MfN l u v W ∧ ((∀ y ∈ l, okMf R y) ∧ l.length * 104 ≤ R) := by
  obtain ⟨a, len, cap, rfl⟩ := okWide_slice Tryd.underlying22 hval
  obtain ⟨fuel, hf⟩ := h
  exact (open_rn (ok := fun y => okMf R y) dMf ((Value.slice none 0 0), (Value.slice none 0 0), (Value.slice none 0 0)) Tryd.underlying22 (k := 5) (b := 104) (by kernel_rfl) (by kernel_rfl) (by decide) nMf_len (fun h hs => opens_Mf h hs)) hf hs
theorem okl_of {l : List Mf} (h : ∀ y ∈ l, okMf 268435456 y) : okl l := fun y hy => by
  have := h y hy
  unfold okMf at this
  omega
theorem okl_elt {y : Mf} (h : okMf 268435456 y) : y.needs.length ≤ 6710887 ∧ y.clashes.length ≤ 6710887 := by
  unfold okMf at h
  omega
end Go.Proofs.YtpbenhfnebgbiaaDoor.So
