/- Layer 17: a node that comes in. -/
import Derived.Test.YtmammofbgllceaaNodM
import Derived.WalkKit
import Derived.ProofKit
import Derived.OpenShut
import Derived.ChangeMaps5
import Derived.Carry
namespace Go.Proofs.Ytmammofbgllceaa.Nod
open Go.ChangeShapes Go.WideShapes Go.ChangeAt Go.RowKit Go.ChangeMaps
open Go.Proofs.Ytmammofbgllceaa.Mem

theorem cells_node : Try.prog.cellsOf 48 = 8 := by kernel_rfl
theorem cells_int : Try.prog.cellsOf 3 = 1 := by kernel_rfl
theorem cells_ints : Try.prog.cellsOf 46 = 1 := by kernel_rfl
section
variable {H : Type} {enc : TypeId × Value → H} {W : World} {base : Nat} {held : Bool}
theorem open_ints_rd {m : Nat} {v : Value} {x : DataW H × List MemPlace} (h : DataW.trod enc Try.prog W base (fun _ => true) held m 46 [v] = some x) :
    ∃ l : List Int, Rd W v l.length 1 (l.map iv) ∧ l.length ≤ maxLen := by
  rcases open_ints Try.underlying46 Try.underlying3 cells_int h with ⟨hcs, _⟩ | ⟨a, len, cap, zs, hcs, _, hl, hm, hz, _, hcell, _⟩
  · simp only [List.cons.injEq, and_true] at hcs
    subst hcs
    exact ⟨[], Rd.nil W 1, Nat.zero_le _⟩
  · simp only [List.cons.injEq, and_true] at hcs
    subst hcs
    simp only [if_true] at hz
    have htl : (zs.take len).length = len := by rw [List.length_take]; omega
    refine ⟨zs.take len, ⟨by rw [List.length_map, Nat.mul_one], ?_⟩, by omega⟩
    rw [htl]
    by_cases h0 : len = 0
    · exact .inl ⟨h0, some a, cap, by rw [h0]⟩
    · obtain ⟨b, off, rfl, hc⟩ := ints_at hcell (by omega)
      refine .inr ⟨b, off, cap, rfl, fun j u hu => ?_⟩
      rw [List.getElem?_map, List.getElem?_take] at hu
      by_cases hj : j < len
      · rw [if_pos hj, List.getElem?_eq_getElem (by omega)] at hu
        obtain rfl := Option.some.inj hu
        rw [hc j (by omega), List.getD_eq_getElem?_getD, List.getElem?_eq_getElem (by omega)]; rfl
      · rw [if_neg hj] at hu
        cases hu
theorem one_int {m : Nat} {v : Value} {x : Option (DataW H × List MemPlace)} (h : DataW.trod enc Try.prog W base (fun _ => true) held m 3 [v] = x) (hx : x.isSome = true) : ∃ n : Int, v = .int .i64 n ∧ n ≤ 9223372036854775807 := by
  obtain ⟨y, rfl⟩ := Option.isSome_iff_exists.1 hx
  obtain ⟨n, e, _, hw⟩ := DataW.trod_int Try.underlying3 h
  simp only [List.cons.injEq, and_true] at e
  exact ⟨n, e, (bounds_i64 hw).2⟩
theorem open_node {r : Reach} {b0 : Nat} {v : Value} {d : DataW H} {p : List MemPlace} (hval : Value.okWide Try.prog W r b0 48 v) (h : DataW.Trod enc Try.prog W base (fun _ => true) held 48 v d p) :
    ∃ (x : Nd) (s : Value), v = ndVal x s ∧ Rd W s x.blocks.length 1 (x.blocks.map iv) ∧ x.time ≤ 9223372036854775807 ∧ x.blocks.length ≤ maxLen := by
  obtain ⟨⟨cs⟩, rfl, hsz⟩ := okWide_struct Try.underlying48 hval
  rw [cells_node] at hsz
  obtain ⟨fuel, hf⟩ := h
  obtain ⟨xs, m, _, _, _, hlen, hel⟩ := DataW.trod_struct Try.underlying48 hf
  simp only [Value.cells] at hel
  replace hlen : xs.length = 8 := hlen
  have hs : ∀ i, i < 8 → (xs[i]?).isSome = true := fun i hi => by rw [List.getElem?_eq_getElem (by omega)]; rfl
  match cs, hsz with
  | [c0, c1, c2, c3, c4, c5, c6, c7], _ =>
    have e0 : DataW.trod enc Try.prog W base (fun _ => true) held m 3 (([c0, c1, c2, c3, c4, c5, c6, c7].drop 0).take (Try.prog.cellsOf 3)) = xs[0]? := hel 0 _ rfl
    rw [cells_int] at e0
    replace e0 : DataW.trod enc Try.prog W base (fun _ => true) held m 3 [c0] = xs[0]? := e0
    obtain ⟨n0, r0, b0⟩ := one_int e0 (hs 0 (by decide))
    have e1 : DataW.trod enc Try.prog W base (fun _ => true) held m 3 (([c0, c1, c2, c3, c4, c5, c6, c7].drop 1).take (Try.prog.cellsOf 3)) = xs[1]? := hel 1 _ rfl
    rw [cells_int] at e1
    replace e1 : DataW.trod enc Try.prog W base (fun _ => true) held m 3 [c1] = xs[1]? := e1
    obtain ⟨n1, r1, b1⟩ := one_int e1 (hs 1 (by decide))
    have e2 : DataW.trod enc Try.prog W base (fun _ => true) held m 3 (([c0, c1, c2, c3, c4, c5, c6, c7].drop 2).take (Try.prog.cellsOf 3)) = xs[2]? := hel 2 _ rfl
    rw [cells_int] at e2
    replace e2 : DataW.trod enc Try.prog W base (fun _ => true) held m 3 [c2] = xs[2]? := e2
    obtain ⟨n2, r2, b2⟩ := one_int e2 (hs 2 (by decide))
    have e3 : DataW.trod enc Try.prog W base (fun _ => true) held m 3 (([c0, c1, c2, c3, c4, c5, c6, c7].drop 3).take (Try.prog.cellsOf 3)) = xs[3]? := hel 3 _ rfl
    rw [cells_int] at e3
    replace e3 : DataW.trod enc Try.prog W base (fun _ => true) held m 3 [c3] = xs[3]? := e3
    obtain ⟨n3, r3, b3⟩ := one_int e3 (hs 3 (by decide))
    have e4 : DataW.trod enc Try.prog W base (fun _ => true) held m 3 (([c0, c1, c2, c3, c4, c5, c6, c7].drop 4).take (Try.prog.cellsOf 3)) = xs[4]? := hel 4 _ rfl
    rw [cells_int] at e4
    replace e4 : DataW.trod enc Try.prog W base (fun _ => true) held m 3 [c4] = xs[4]? := e4
    obtain ⟨n4, r4, b4⟩ := one_int e4 (hs 4 (by decide))
    have e5 : DataW.trod enc Try.prog W base (fun _ => true) held m 3 (([c0, c1, c2, c3, c4, c5, c6, c7].drop 5).take (Try.prog.cellsOf 3)) = xs[5]? := hel 5 _ rfl
    rw [cells_int] at e5
    replace e5 : DataW.trod enc Try.prog W base (fun _ => true) held m 3 [c5] = xs[5]? := e5
    obtain ⟨n5, r5, b5⟩ := one_int e5 (hs 5 (by decide))
    have e6 : DataW.trod enc Try.prog W base (fun _ => true) held m 3 (([c0, c1, c2, c3, c4, c5, c6, c7].drop 6).take (Try.prog.cellsOf 3)) = xs[6]? := hel 6 _ rfl
    rw [cells_int] at e6
    replace e6 : DataW.trod enc Try.prog W base (fun _ => true) held m 3 [c6] = xs[6]? := e6
    obtain ⟨n6, r6, b6⟩ := one_int e6 (hs 6 (by decide))
    have e7 : DataW.trod enc Try.prog W base (fun _ => true) held m 46 (([c0, c1, c2, c3, c4, c5, c6, c7].drop 7).take (Try.prog.cellsOf 46)) = xs[7]? := hel 7 _ rfl
    rw [cells_ints] at e7
    replace e7 : DataW.trod enc Try.prog W base (fun _ => true) held m 46 [c7] = xs[7]? := e7
    obtain ⟨y, hy⟩ := Option.isSome_iff_exists.1 (hs 7 (by decide))
    rw [hy] at e7
    obtain ⟨l, hl, hm⟩ := open_ints_rd e7
    exact ⟨⟨n0, n1, n2, n3, n4, n5, n6, l⟩, c7, by rw [r0, r1, r2, r3, r4, r5, r6]; rfl, hl, b4, hm⟩
end
end Go.Proofs.Ytmammofbgllceaa.Nod
