/- Curves of the Edwards form over Fin p: sums are closed, associative; points in four numbers. -/
import Derived.Test.YtfpphinnngblgaaDoorNum
namespace Go.Proofs.YtfpphinnngblgaaDoor.Crv
section
variable {p : Nat} [NeZero p]
structure Gd (d : Fin p) (inv : Fin p → Fin p) : Prop where
  inv : ∀ x : Fin p, x ≠ 0 → x * inv x = 1
  two : (2 : Fin p) ≠ 0
  im : ∃ i : Fin p, i * i = -1
  non : ∀ x : Fin p, x * x ≠ d
variable {d : Fin p} {inv : Fin p → Fin p}
theorem Gd.mul (G : Gd d inv) {x y : Fin p} (h : x * y = 0) : x = 0 ∨ y = 0 := by
  by_cases hx : x = 0
  · exact .inl hx
  · have := G.inv x hx
    exact .inr (by grind)
theorem Gd.one (G : Gd d inv) : (1 : Fin p) ≠ 0 := fun h => G.two (by grind)
theorem Gd.nz (G : Gd d inv) {x y : Fin p} (hx : x ≠ 0) (hy : y ≠ 0) : x * y ≠ 0 := fun h => (G.mul h).elim hx hy
theorem Gd.can (G : Gd d inv) {x y z : Fin p} (hz : z ≠ 0) (h : x * z = y * z) : x = y := by
  have := G.inv z hz
  grind
/-- The curve. -/
def On (d x y : Fin p) : Prop := y * y - x * x = 1 + d * x * x * y * y
theorem on_neg {x y : Fin p} (h : On d x y) : On d (-x) y := by unfold On at *; grind
/-- A point in four numbers. -/
structure Pj (p : Nat) where
  x : Fin p
  y : Fin p
  z : Fin p
  t : Fin p
structure Rep (d : Fin p) (q : Pj p) (P : Fin p × Fin p) : Prop where
  z : q.z ≠ 0
  x : q.x = P.1 * q.z
  y : q.y = P.2 * q.z
  t : q.t = P.1 * P.2 * q.z
  on : On d P.1 P.2
def onJ (d : Fin p) (q : Pj p) : Prop := q.z ≠ 0 ∧ q.t * q.z = q.x * q.y ∧ q.y * q.y - q.x * q.x = q.z * q.z + d * (q.t * q.t)
theorem Rep.onJ {q : Pj p} {P : Fin p × Fin p} (h : Rep d q P) : onJ d q := by
  refine ⟨h.z, ?_, ?_⟩
  · rw [h.t, h.x, h.y]; grind
  · rw [h.t, h.x, h.y]
    have := h.on
    unfold On at this
    grind
theorem Gd.den1 (G : Gd d inv) (y : Fin p) : 1 + d * (y * y) ≠ 0 := fun e => by
  obtain ⟨i, hi⟩ := G.im
  have hy : y ≠ 0 := fun e0 => G.one (by grind)
  have hj := G.inv y hy
  exact G.non (i * inv y) (by grind)
theorem Gd.up (G : Gd d inv) {x v : Fin p} (h : x * x = (v * v - 1) * inv (d * (v * v) + 1)) : On d x v := by
  have hD : d * (v * v) + 1 ≠ 0 := fun e => G.den1 v (by grind)
  have hj := G.inv _ hD
  generalize inv (d * (v * v) + 1) = j at *
  unfold On
  grind
theorem aff_rep (G : Gd d inv) {x y : Fin p} (h : On d x y) : Rep d ⟨x, y, 1, x * y⟩ (x, y) := by
  refine ⟨G.one, ?_, ?_, ?_, h⟩
  · show x = x * 1; grind
  · show y = y * 1; grind
  · show x * y = x * y * 1; grind
theorem inv_mul {a z i : Fin p} (h : z * i = 1) : a * z * i = a := by grind
theorem neg0 : -(0 : Fin p) = 0 := by grind
end
end Go.Proofs.YtfpphinnngblgaaDoor.Crv
