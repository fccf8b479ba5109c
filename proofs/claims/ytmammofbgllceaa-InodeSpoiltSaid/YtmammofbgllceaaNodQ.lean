/- Layer 17: fields that come in. -/
import Derived.Test.YtmammofbgllceaaNodO
import Derived.Deep.SlicePairs
namespace Go.Proofs.Ytmammofbgllceaa.Nod
open Go.ChangeShapes Go.WideShapes Go.ChangeAt Go.RowKit Go.ChangeMaps
open Go.Proofs.Ytmammofbgllceaa.Mem

/-- A field of InodeSpoilt: where, and what byte. -/
def fv (p : Int × UInt8) : List Value := [.int .i64 p.1, bv p.2]
def fd : Int × UInt8 := (0, 0)
theorem fv_len : ∀ l : List (Int × UInt8), (l.flatMap fv).length = l.length * 2
  | [] => rfl
  | p :: l => by rw [List.flatMap_cons, List.length_append, fv_len l]; simp [fv]; omega
theorem fv_at : ∀ (l : List (Int × UInt8)) (i j : Nat), i < l.length → j < 2 → (l.flatMap fv)[i * 2 + j]? = (fv (l.getD i fd))[j]?
  | [], i, j, h, _ => by simp at h
  | p :: l, 0, j, _, hj => by
    rw [List.flatMap_cons, Nat.zero_mul, Nat.zero_add, List.getElem?_append_left (by simpa [fv] using hj)]; rfl
  | p :: l, i + 1, j, h, hj => by
    rw [List.flatMap_cons, List.getElem?_append_right (by simp [fv]; omega), List.getD_cons_succ, ← fv_at l i j (by simpa using h) hj]
    congr 1
    simp [fv]; omega
theorem fv_0 (l : List (Int × UInt8)) (i : Nat) (h : i < l.length) : (l.flatMap fv)[i * 2 + 0]? = some (.int .i64 (l.getD i fd).1) := fv_at l i 0 h (by decide)
theorem fv_1 (l : List (Int × UInt8)) (i : Nat) (h : i < l.length) : (l.flatMap fv)[i * 2 + 1]? = some (bv (l.getD i fd).2) := fv_at l i 1 h (by decide)
def zOf : Value → Int
  | .int _ n => n
  | _ => 0
theorem cells_field : Try.prog.cellsOf 57 = 2 := by kernel_rfl
theorem cells_u8 : Try.prog.cellsOf 5 = 1 := by kernel_rfl
section
variable {H : Type} {enc : TypeId × Value → H} {W : World} {base : Nat} {held : Bool}
theorem open_flds {m : Nat} {v : Value} {x : DataW H × List MemPlace} (h : DataW.trod enc Try.prog W base (fun _ => true) held m 55 [v] = some x) :
    ∃ l : List (Int × UInt8), Rd W v l.length 2 (l.flatMap fv) ∧ l.length ≤ maxLen := by
  rcases Go.Deep.open_slice_pairs Try.underlying55 Try.underlying57 cells_field rfl rfl cells_int cells_u8 h with ⟨hcs, _⟩ | ⟨a, len, cap, k, n, V0, V1, D0, D1, P0, P1, hcs, _, hl, hm, hk, _, hel⟩
  · simp only [List.cons.injEq, and_true] at hcs
    subst hcs
    exact ⟨[], Rd.nil W 2, Nat.zero_le _⟩
  · simp only [List.cons.injEq, and_true] at hcs
    subst hcs
    simp only [if_true] at hk
    have hll : ((List.range len).map fun i => (zOf (V0 i), UInt8.ofNat (zOf (V1 i)).toNat)).length = len := by simp
    refine ⟨(List.range len).map fun i => (zOf (V0 i), UInt8.ofNat (zOf (V1 i)).toNat), ⟨fv_len _, ?_⟩, by omega⟩
    rw [hll]
    by_cases h0 : len = 0
    · exact .inl ⟨h0, some a, cap, by rw [h0]⟩
    · obtain ⟨b, off, spot⟩ := a
      have hspot : spot = none := by simpa [Addr.add] using World.cell?_spot (hel 0 (by omega)).1
      subst hspot
      refine .inr ⟨b, off, cap, rfl, fun j u hu => ?_⟩
      have hj : j < len * 2 := by
        have := (List.getElem?_eq_some_iff.1 hu).1
        rw [fv_len, hll] at this
        exact this
      obtain ⟨i, r, hr, rfl⟩ : ∃ i r, r < 2 ∧ j = i * 2 + r := ⟨j / 2, j % 2, by omega, by omega⟩
      rw [fv_at _ i r (by rw [hll]; omega) hr] at hu
      obtain ⟨c0, c1, t0, t1⟩ := hel i (by omega)
      obtain ⟨n0, e0, _, _⟩ := DataW.trod_int Try.underlying3 t0
      obtain ⟨n1, e1, _, w1⟩ := DataW.trod_int Try.underlying5 t1
      simp only [List.cons.injEq, and_true] at e0 e1
      have hb := bounds_u8 w1
      rw [List.getD_eq_getElem?_getD, List.getElem?_map, List.getElem?_range (by omega)] at hu
      rw [add_lit] at c0 c1
      have hr2 : r = 0 ∨ r = 1 := by omega
      rcases hr2 with rfl | rfl
      · change some (Value.int .i64 (zOf (V0 i))) = some u at hu
        rw [e0] at hu
        rw [Nat.add_zero, c0, e0]
        exact hu
      · change some (bv (UInt8.ofNat (zOf (V1 i)).toNat)) = some u at hu
        rw [e1] at hu
        change some (bv (UInt8.ofNat n1.toNat)) = some u at hu
        rw [bv_nat _ (show n1.toNat < 256 by omega), Int.toNat_of_nonneg hb.1] at hu
        rw [c1, e1]
        exact hu
end
end Go.Proofs.Ytmammofbgllceaa.Nod
