/- Layer 9: what comes in. -/
import Derived.Test.YtglnifckngcpkaaDoorOp
import Derived.Test.YtglnifckngcpkaaDoorHdT
set_option linter.unusedVariables false
namespace Go.Proofs.YtglnifckngcpkaaDoor.Hd
open Go.ChangeShapes Go.WideShapes Go.ChangeAt Go.RowKit Go.ChangeMaps
open Go.Proofs.YtglnifckngcpkaaDoor.Mem
def okHdr (R : Nat) (x : Hdr) : Prop := x.name.length ≤ R ∧ (-9223372036854775808 ≤ x.mode ∧ x.mode ≤ 9223372036854775807) ∧ (-9223372036854775808 ≤ x.uid ∧ x.uid ≤ 9223372036854775807) ∧ (-9223372036854775808 ≤ x.gid ∧ x.gid ≤ 9223372036854775807) ∧ (-9223372036854775808 ≤ x.size ∧ x.size ≤ 9223372036854775807) ∧ (-9223372036854775808 ≤ x.time ∧ x.time ≤ 9223372036854775807) ∧ True ∧ x.link.length ≤ R ∧ x.pfx.length ≤ R
set_option maxRecDepth 100000 in
theorem opens_Hdr {R : Nat} : Opens R Tryd.prog 23 eHdr (okHdr R) := by
  intro H enc W base held m cs x h hs
  obtain ⟨hl, n, hf⟩ := field_open Tryd.underlying23 h hs
  replace hl : cs.length = 9 := hl.trans (by kernel_rfl)
  match cs, hl with
  | [c0, c1, c2, c3, c4, c5, c6, c7, c8], _ =>
    obtain ⟨y0, q0, s0⟩ := hf 0 _ rfl
    have t0 : DataW.trod enc Tryd.prog W base (fun _ => true) held n 9 (([c0, c1, c2, c3, c4, c5, c6, c7, c8].drop 0).take (Tryd.prog.cellsOf 9)) = some y0 := q0
    rw [show Tryd.prog.cellsOf 9 = 1 from by kernel_rfl] at t0
    replace t0 : DataW.trod enc Tryd.prog W base (fun _ => true) held n 9 [c0] = some y0 := t0
    obtain ⟨z0, e0, k0⟩ := (opens_string Tryd.underlying9) t0 s0
    have g0 := (List.cons.inj e0).1
    obtain ⟨y1, q1, s1⟩ := hf 1 _ rfl
    have t1 : DataW.trod enc Tryd.prog W base (fun _ => true) held n 3 (([c0, c1, c2, c3, c4, c5, c6, c7, c8].drop 1).take (Tryd.prog.cellsOf 3)) = some y1 := q1
    rw [show Tryd.prog.cellsOf 3 = 1 from by kernel_rfl] at t1
    replace t1 : DataW.trod enc Tryd.prog W base (fun _ => true) held n 3 [c1] = some y1 := t1
    obtain ⟨z1, e1, k1⟩ := (opens_int Tryd.underlying3) t1 s1
    have g1 := (List.cons.inj e1).1
    obtain ⟨y2, q2, s2⟩ := hf 2 _ rfl
    have t2 : DataW.trod enc Tryd.prog W base (fun _ => true) held n 3 (([c0, c1, c2, c3, c4, c5, c6, c7, c8].drop 2).take (Tryd.prog.cellsOf 3)) = some y2 := q2
    rw [show Tryd.prog.cellsOf 3 = 1 from by kernel_rfl] at t2
    replace t2 : DataW.trod enc Tryd.prog W base (fun _ => true) held n 3 [c2] = some y2 := t2
    obtain ⟨z2, e2, k2⟩ := (opens_int Tryd.underlying3) t2 s2
    have g2 := (List.cons.inj e2).1
    obtain ⟨y3, q3, s3⟩ := hf 3 _ rfl
    have t3 : DataW.trod enc Tryd.prog W base (fun _ => true) held n 3 (([c0, c1, c2, c3, c4, c5, c6, c7, c8].drop 3).take (Tryd.prog.cellsOf 3)) = some y3 := q3
    rw [show Tryd.prog.cellsOf 3 = 1 from by kernel_rfl] at t3
    replace t3 : DataW.trod enc Tryd.prog W base (fun _ => true) held n 3 [c3] = some y3 := t3
    obtain ⟨z3, e3, k3⟩ := (opens_int Tryd.underlying3) t3 s3
    have g3 := (List.cons.inj e3).1
    obtain ⟨y4, q4, s4⟩ := hf 4 _ rfl
    have t4 : DataW.trod enc Tryd.prog W base (fun _ => true) held n 3 (([c0, c1, c2, c3, c4, c5, c6, c7, c8].drop 4).take (Tryd.prog.cellsOf 3)) = some y4 := q4
    rw [show Tryd.prog.cellsOf 3 = 1 from by kernel_rfl] at t4
    replace t4 : DataW.trod enc Tryd.prog W base (fun _ => true) held n 3 [c4] = some y4 := t4
    obtain ⟨z4, e4, k4⟩ := (opens_int Tryd.underlying3) t4 s4
    have g4 := (List.cons.inj e4).1
    obtain ⟨y5, q5, s5⟩ := hf 5 _ rfl
    have t5 : DataW.trod enc Tryd.prog W base (fun _ => true) held n 3 (([c0, c1, c2, c3, c4, c5, c6, c7, c8].drop 5).take (Tryd.prog.cellsOf 3)) = some y5 := q5
    rw [show Tryd.prog.cellsOf 3 = 1 from by kernel_rfl] at t5
    replace t5 : DataW.trod enc Tryd.prog W base (fun _ => true) held n 3 [c5] = some y5 := t5
    obtain ⟨z5, e5, k5⟩ := (opens_int Tryd.underlying3) t5 s5
    have g5 := (List.cons.inj e5).1
    obtain ⟨y6, q6, s6⟩ := hf 6 _ rfl
    have t6 : DataW.trod enc Tryd.prog W base (fun _ => true) held n 5 (([c0, c1, c2, c3, c4, c5, c6, c7, c8].drop 6).take (Tryd.prog.cellsOf 5)) = some y6 := q6
    rw [show Tryd.prog.cellsOf 5 = 1 from by kernel_rfl] at t6
    replace t6 : DataW.trod enc Tryd.prog W base (fun _ => true) held n 5 [c6] = some y6 := t6
    obtain ⟨z6, e6, k6⟩ := (opens_u8 Tryd.underlying5) t6 s6
    have g6 := (List.cons.inj e6).1
    obtain ⟨y7, q7, s7⟩ := hf 7 _ rfl
    have t7 : DataW.trod enc Tryd.prog W base (fun _ => true) held n 9 (([c0, c1, c2, c3, c4, c5, c6, c7, c8].drop 7).take (Tryd.prog.cellsOf 9)) = some y7 := q7
    rw [show Tryd.prog.cellsOf 9 = 1 from by kernel_rfl] at t7
    replace t7 : DataW.trod enc Tryd.prog W base (fun _ => true) held n 9 [c7] = some y7 := t7
    obtain ⟨z7, e7, k7⟩ := (opens_string Tryd.underlying9) t7 s7
    have g7 := (List.cons.inj e7).1
    obtain ⟨y8, q8, s8⟩ := hf 8 _ rfl
    have t8 : DataW.trod enc Tryd.prog W base (fun _ => true) held n 9 (([c0, c1, c2, c3, c4, c5, c6, c7, c8].drop 8).take (Tryd.prog.cellsOf 9)) = some y8 := q8
    rw [show Tryd.prog.cellsOf 9 = 1 from by kernel_rfl] at t8
    replace t8 : DataW.trod enc Tryd.prog W base (fun _ => true) held n 9 [c8] = some y8 := t8
    obtain ⟨z8, e8, k8⟩ := (opens_string Tryd.underlying9) t8 s8
    have g8 := (List.cons.inj e8).1
    subst g0
    subst g1
    subst g2
    subst g3
    subst g4
    subst g5
    subst g6
    subst g7
    subst g8
    exact ⟨⟨z0, z1, z2, z3, z4, z5, z6, z7, z8⟩, rfl, ⟨k0, k1, k2, k3, k4, k5, k6, k7, k8⟩⟩
set_option maxRecDepth 100000 in
theorem arg_Hdr {R : Nat} {H : Type} {enc : TypeId × Value → H} {W : World} {base : Nat} {held : Bool} {r : Reach} {b0 : Nat} {v : Value} {d : DataW H} {p : List MemPlace} (hval : Value.okWide Tryd.prog W r b0 23 v) (h : DataW.Trod enc Tryd.prog W base (fun _ => true) held 23 v d p) (hs : Small R Tryd.prog 23 d) :
    ∃ (x : Hdr), v = .agg #[.string (tx x.name), .int .i64 (x.mode), .int .i64 (x.uid), .int .i64 (x.gid), .int .i64 (x.size), .int .i64 (x.time), .int .u8 ((x.flag.toNat : Nat) : Int), .string (tx x.link), .string (tx x.pfx)] ∧ okHdr R x := by
  obtain ⟨⟨cs⟩, rfl, hsz⟩ := okWide_struct Tryd.underlying23 hval
  obtain ⟨fuel, hh⟩ := h
  obtain ⟨hl, n, hf⟩ := field_open Tryd.underlying23 hh hs
  replace hl : cs.length = 9 := hl.trans (by kernel_rfl)
  match cs, hl with
  | [c0, c1, c2, c3, c4, c5, c6, c7, c8], _ =>
    simp only [Value.cells] at hf
    obtain ⟨y0, q0, s0⟩ := hf 0 _ rfl
    have t0 : DataW.trod enc Tryd.prog W base (fun _ => true) held n 9 (([c0, c1, c2, c3, c4, c5, c6, c7, c8].drop 0).take (Tryd.prog.cellsOf 9)) = some y0 := q0
    rw [show Tryd.prog.cellsOf 9 = 1 from by kernel_rfl] at t0
    replace t0 : DataW.trod enc Tryd.prog W base (fun _ => true) held n 9 [c0] = some y0 := t0
    obtain ⟨z0, e0, k0⟩ := (opens_string Tryd.underlying9) t0 s0
    have g0 := (List.cons.inj e0).1
    obtain ⟨y1, q1, s1⟩ := hf 1 _ rfl
    have t1 : DataW.trod enc Tryd.prog W base (fun _ => true) held n 3 (([c0, c1, c2, c3, c4, c5, c6, c7, c8].drop 1).take (Tryd.prog.cellsOf 3)) = some y1 := q1
    rw [show Tryd.prog.cellsOf 3 = 1 from by kernel_rfl] at t1
    replace t1 : DataW.trod enc Tryd.prog W base (fun _ => true) held n 3 [c1] = some y1 := t1
    obtain ⟨z1, e1, k1⟩ := (opens_int Tryd.underlying3) t1 s1
    have g1 := (List.cons.inj e1).1
    obtain ⟨y2, q2, s2⟩ := hf 2 _ rfl
    have t2 : DataW.trod enc Tryd.prog W base (fun _ => true) held n 3 (([c0, c1, c2, c3, c4, c5, c6, c7, c8].drop 2).take (Tryd.prog.cellsOf 3)) = some y2 := q2
    rw [show Tryd.prog.cellsOf 3 = 1 from by kernel_rfl] at t2
    replace t2 : DataW.trod enc Tryd.prog W base (fun _ => true) held n 3 [c2] = some y2 := t2
    obtain ⟨z2, e2, k2⟩ := (opens_int Tryd.underlying3) t2 s2
    have g2 := (List.cons.inj e2).1
    obtain ⟨y3, q3, s3⟩ := hf 3 _ rfl
    have t3 : DataW.trod enc Tryd.prog W base (fun _ => true) held n 3 (([c0, c1, c2, c3, c4, c5, c6, c7, c8].drop 3).take (Tryd.prog.cellsOf 3)) = some y3 := q3
    rw [show Tryd.prog.cellsOf 3 = 1 from by kernel_rfl] at t3
    replace t3 : DataW.trod enc Tryd.prog W base (fun _ => true) held n 3 [c3] = some y3 := t3
    obtain ⟨z3, e3, k3⟩ := (opens_int Tryd.underlying3) t3 s3
    have g3 := (List.cons.inj e3).1
    obtain ⟨y4, q4, s4⟩ := hf 4 _ rfl
    have t4 : DataW.trod enc Tryd.prog W base (fun _ => true) held n 3 (([c0, c1, c2, c3, c4, c5, c6, c7, c8].drop 4).take (Tryd.prog.cellsOf 3)) = some y4 := q4
    rw [show Tryd.prog.cellsOf 3 = 1 from by kernel_rfl] at t4
    replace t4 : DataW.trod enc Tryd.prog W base (fun _ => true) held n 3 [c4] = some y4 := t4
    obtain ⟨z4, e4, k4⟩ := (opens_int Tryd.underlying3) t4 s4
    have g4 := (List.cons.inj e4).1
    obtain ⟨y5, q5, s5⟩ := hf 5 _ rfl
    have t5 : DataW.trod enc Tryd.prog W base (fun _ => true) held n 3 (([c0, c1, c2, c3, c4, c5, c6, c7, c8].drop 5).take (Tryd.prog.cellsOf 3)) = some y5 := q5
    rw [show Tryd.prog.cellsOf 3 = 1 from by kernel_rfl] at t5
    replace t5 : DataW.trod enc Tryd.prog W base (fun _ => true) held n 3 [c5] = some y5 := t5
    obtain ⟨z5, e5, k5⟩ := (opens_int Tryd.underlying3) t5 s5
    have g5 := (List.cons.inj e5).1
    obtain ⟨y6, q6, s6⟩ := hf 6 _ rfl
    have t6 : DataW.trod enc Tryd.prog W base (fun _ => true) held n 5 (([c0, c1, c2, c3, c4, c5, c6, c7, c8].drop 6).take (Tryd.prog.cellsOf 5)) = some y6 := q6
    rw [show Tryd.prog.cellsOf 5 = 1 from by kernel_rfl] at t6
    replace t6 : DataW.trod enc Tryd.prog W base (fun _ => true) held n 5 [c6] = some y6 := t6
    obtain ⟨z6, e6, k6⟩ := (opens_u8 Tryd.underlying5) t6 s6
    have g6 := (List.cons.inj e6).1
    obtain ⟨y7, q7, s7⟩ := hf 7 _ rfl
    have t7 : DataW.trod enc Tryd.prog W base (fun _ => true) held n 9 (([c0, c1, c2, c3, c4, c5, c6, c7, c8].drop 7).take (Tryd.prog.cellsOf 9)) = some y7 := q7
    rw [show Tryd.prog.cellsOf 9 = 1 from by kernel_rfl] at t7
    replace t7 : DataW.trod enc Tryd.prog W base (fun _ => true) held n 9 [c7] = some y7 := t7
    obtain ⟨z7, e7, k7⟩ := (opens_string Tryd.underlying9) t7 s7
    have g7 := (List.cons.inj e7).1
    obtain ⟨y8, q8, s8⟩ := hf 8 _ rfl
    have t8 : DataW.trod enc Tryd.prog W base (fun _ => true) held n 9 (([c0, c1, c2, c3, c4, c5, c6, c7, c8].drop 8).take (Tryd.prog.cellsOf 9)) = some y8 := q8
    rw [show Tryd.prog.cellsOf 9 = 1 from by kernel_rfl] at t8
    replace t8 : DataW.trod enc Tryd.prog W base (fun _ => true) held n 9 [c8] = some y8 := t8
    obtain ⟨z8, e8, k8⟩ := (opens_string Tryd.underlying9) t8 s8
    have g8 := (List.cons.inj e8).1
    subst g0
    subst g1
    subst g2
    subst g3
    subst g4
    subst g5
    subst g6
    subst g7
    subst g8
    exact ⟨⟨z0, z1, z2, z3, z4, z5, z6, z7, z8⟩, rfl, ⟨k0, k1, k2, k3, k4, k5, k6, k7, k8⟩⟩
end Go.Proofs.YtglnifckngcpkaaDoor.Hd
