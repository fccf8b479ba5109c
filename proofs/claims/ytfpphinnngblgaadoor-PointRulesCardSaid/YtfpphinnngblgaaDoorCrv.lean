/- Curves of the Edwards form over Fin p: sums are closed, associative; points in four numbers. -/
import Derived.Test.YtfpphinnngblgaaDoorNum
namespace Go.Proofs.YtfpphinnngblgaaDoor.Crv
section
variable {p : Nat} [NeZero p]
structure Gd (d : Fin p) (inv : Fin p → Fin p) : Prop where
  inv : ∀ x : Fin p, x ≠ 0 → x * inv x = 1
  two : (2 : Fin p) ≠ 0
  im : ∃ i : Fin p, i * i = -1
  non : ∀ x : Fin p, x * x ≠ d
variable {d : Fin p} {inv : Fin p → Fin p}
theorem Gd.mul (G : Gd d inv) {x y : Fin p} (h : x * y = 0) : x = 0 ∨ y = 0 := by
  by_cases hx : x = 0
  · exact .inl hx
  · have := G.inv x hx
    exact .inr (by grind)
theorem Gd.one (G : Gd d inv) : (1 : Fin p) ≠ 0 := fun h => G.two (by grind)
theorem Gd.nz (G : Gd d inv) {x y : Fin p} (hx : x ≠ 0) (hy : y ≠ 0) : x * y ≠ 0 := fun h => (G.mul h).elim hx hy
theorem Gd.can (G : Gd d inv) {x y z : Fin p} (hz : z ≠ 0) (h : x * z = y * z) : x = y := by
  have := G.inv z hz
  grind
/-- The curve. -/
def On (d x y : Fin p) : Prop := y * y - x * x = 1 + d * x * x * y * y
theorem full (G : Gd d inv) {x1 y1 x2 y2 e : Fin p} (h1 : On d x1 y1) (h2 : On d x2 y2) (he : e * e = 1) : d * x1 * y1 * x2 * y2 ≠ e := fun hk => by
  obtain ⟨i, hi⟩ := G.im
  unfold On at h1 h2
  have hne : e ≠ 0 := fun h => G.one (by grind)
  have s1 : (i * x1 + e * y1) * (i * x1 + e * y1) = d * ((i * (i * x1) * y1 * (i * x2 + y2)) * (i * (i * x1) * y1 * (i * x2 + y2))) := by grind
  have s2 : (i * x1 - e * y1) * (i * x1 - e * y1) = d * ((i * (i * x1) * y1 * (i * x2 - y2)) * (i * (i * x1) * y1 * (i * x2 - y2))) := by grind
  have zero : ∀ u w : Fin p, u * u = d * (w * w) → w = 0 := fun u w h => by
    apply Classical.byContradiction
    intro hw
    have := G.inv w hw
    exact G.non (u * inv w) (by grind)
  have z1 := zero _ _ s1
  have z2 := zero _ _ s2
  have n1 : i * (i * x1) * y1 ≠ 0 := fun h => hne (by grind)
  have t1 := (G.mul z1).resolve_left n1
  have t2 := (G.mul z2).resolve_left n1
  have t3 : (2 : Fin p) * y2 = 0 := by grind
  have t4 := (G.mul t3).resolve_left G.two
  exact hne (by grind)
theorem den (G : Gd d inv) {x1 y1 x2 y2 : Fin p} (h1 : On d x1 y1) (h2 : On d x2 y2) : 1 + d * x1 * y1 * x2 * y2 ≠ 0 ∧ 1 - d * x1 * y1 * x2 * y2 ≠ 0 :=
  ⟨fun h => full G h1 h2 (e := -1) (by grind) (by grind), fun h => full G h1 h2 (e := 1) (by grind) (by grind)⟩
/-- A sum. -/
def ad (d : Fin p) (inv : Fin p → Fin p) (P Q : Fin p × Fin p) : Fin p × Fin p :=
  ((P.1 * Q.2 + P.2 * Q.1) * inv (1 + d * P.1 * P.2 * Q.1 * Q.2), (P.2 * Q.2 + P.1 * Q.1) * inv (1 - d * P.1 * P.2 * Q.1 * Q.2))
theorem ad1 (G : Gd d inv) {P Q : Fin p × Fin p} (h1 : On d P.1 P.2) (h2 : On d Q.1 Q.2) : (ad d inv P Q).1 * (1 + d * P.1 * P.2 * Q.1 * Q.2) = P.1 * Q.2 + P.2 * Q.1 := by
  have := G.inv _ (den G h1 h2).1
  unfold ad; simp only
  grind
theorem ad2 (G : Gd d inv) {P Q : Fin p × Fin p} (h1 : On d P.1 P.2) (h2 : On d Q.1 Q.2) : (ad d inv P Q).2 * (1 - d * P.1 * P.2 * Q.1 * Q.2) = P.2 * Q.2 + P.1 * Q.1 := by
  have := G.inv _ (den G h1 h2).2
  unfold ad; simp only
  grind
theorem closed (d x1 y1 x2 y2 : Fin p) (h1 : On d x1 y1) (h2 : On d x2 y2) :
    (y1 * y2 + x1 * x2) * (y1 * y2 + x1 * x2) * ((1 + d * x1 * y1 * x2 * y2) * (1 + d * x1 * y1 * x2 * y2)) - (x1 * y2 + y1 * x2) * (x1 * y2 + y1 * x2) * ((1 - d * x1 * y1 * x2 * y2) * (1 - d * x1 * y1 * x2 * y2)) =
    (1 + d * x1 * y1 * x2 * y2) * (1 + d * x1 * y1 * x2 * y2) * ((1 - d * x1 * y1 * x2 * y2) * (1 - d * x1 * y1 * x2 * y2)) + d * ((x1 * y2 + y1 * x2) * (x1 * y2 + y1 * x2) * ((y1 * y2 + x1 * x2) * (y1 * y2 + x1 * x2))) := by
  unfold On at h1 h2
  grind
theorem ad_on (G : Gd d inv) {P Q : Fin p × Fin p} (h1 : On d P.1 P.2) (h2 : On d Q.1 Q.2) : On d (ad d inv P Q).1 (ad d inv P Q).2 := by
  have e1 := ad1 G h1 h2
  have e2 := ad2 G h1 h2
  have hc := closed d _ _ _ _ h1 h2
  have ⟨n1, n2⟩ := den G h1 h2
  rw [← e1, ← e2] at hc
  generalize (ad d inv P Q).1 = x3 at *
  generalize (ad d inv P Q).2 = y3 at *
  generalize 1 + d * P.1 * P.2 * Q.1 * Q.2 = b at *
  generalize 1 - d * P.1 * P.2 * Q.1 * Q.2 = c at *
  refine G.can (G.nz (G.nz n1 n1) (G.nz n2 n2)) ?_
  grind
theorem ad_comm (P Q : Fin p × Fin p) : ad d inv P Q = ad d inv Q P := by
  unfold ad
  have e1 : P.1 * Q.2 + P.2 * Q.1 = Q.1 * P.2 + Q.2 * P.1 := by grind
  have e2 : d * P.1 * P.2 * Q.1 * Q.2 = d * Q.1 * Q.2 * P.1 * P.2 := by grind
  have e3 : P.2 * Q.2 + P.1 * Q.1 = Q.2 * P.2 + Q.1 * P.1 := by grind
  rw [e1, e2, e3]
theorem assoc1 (d x1 y1 x2 y2 x3 y3 : Fin p) (h1 : y1 * y1 - x1 * x1 - 1 - d * x1 * x1 * y1 * y1 = 0) (h2 : y2 * y2 - x2 * x2 - 1 - d * x2 * x2 * y2 * y2 = 0) (h3 : y3 * y3 - x3 * x3 - 1 - d * x3 * x3 * y3 * y3 = 0) :
    ((x1*y2+y1*x2)*(1-d*x1*y1*x2*y2)*y3+(y1*y2+x1*x2)*(1+d*x1*y1*x2*y2)*x3)*((1+d*x2*y2*x3*y3)*(1-d*x2*y2*x3*y3)+d*(x2*y3+y2*x3)*(y2*y3+x2*x3)*x1*y1) =
    (x1*(y2*y3+x2*x3)*(1+d*x2*y2*x3*y3)+y1*(x2*y3+y2*x3)*(1-d*x2*y2*x3*y3))*((1+d*x1*y1*x2*y2)*(1-d*x1*y1*x2*y2)+d*(x1*y2+y1*x2)*(y1*y2+x1*x2)*x3*y3) := by
  have e : ((x1*y2+y1*x2)*(1-d*x1*y1*x2*y2)*y3+(y1*y2+x1*x2)*(1+d*x1*y1*x2*y2)*x3)*((1+d*x2*y2*x3*y3)*(1-d*x2*y2*x3*y3)+d*(x2*y3+y2*x3)*(y2*y3+x2*x3)*x1*y1) -
    (x1*(y2*y3+x2*x3)*(1+d*x2*y2*x3*y3)+y1*(x2*y3+y2*x3)*(1-d*x2*y2*x3*y3))*((1+d*x1*y1*x2*y2)*(1-d*x1*y1*x2*y2)+d*(x1*y2+y1*x2)*(y1*y2+x1*x2)*x3*y3) =
    (0 - y1*x2*y2*y2*y2*y2*x3*x3*y3*d - y1*x2*x2*y2*y2*y2*x3*d - y1*x2*x2*y2*y2*y2*x3*x3*x3*d - y1*x2*x2*x2*y2*y2*y3*d + y1*x2*x2*x2*y2*y2*y3*y3*y3*d + y1*x2*x2*x2*y2*y2*y2*y2*x3*x3*y3*d*d + y1*x2*x2*x2*x2*y2*x3*y3*y3*d + y1*x2*x2*x2*x2*y2*y2*y2*x3*y3*y3*d*d + x1*x2*y2*y2*y2*y2*x3*y3*y3*d - x1*x2*x2*y2*y2*y2*y3*d + x1*x2*x2*y2*y2*y2*y3*y3*y3*d - x1*x2*x2*x2*y2*y2*x3*d - x1*x2*x2*x2*y2*y2*x3*x3*x3*d - x1*x2*x2*x2*y2*y2*y2*y2*x3*y3*y3*d*d - x1*x2*x2*x2*x2*y2*x3*x3*y3*d - x1*x2*x2*x2*x2*y2*y2*y2*x3*x3*y3*d*d) * (y1 * y1 - x1 * x1 - 1 - d * x1 * x1 * y1 * y1) + (y1*y2*x3 - y1*y2*x3*y3*y3 + y1*y2*x3*x3*x3 + y1*y2*x3*x3*x3*y3*y3*d + y1*x2*y3 - y1*x2*y3*y3*y3 + y1*x2*x3*x3*y3 + y1*x2*x3*x3*y3*y3*y3*d - y1*x2*y2*y2*x3*x3*y3*d - y1*x2*x2*y2*x3*y3*y3*d - y1*y1*y1*y2*x3 + y1*y1*y1*y2*x3*y3*y3 - y1*y1*y1*y2*x3*x3*x3 - y1*y1*y1*y2*x3*x3*x3*y3*y3*d - y1*y1*y1*x2*y3 + y1*y1*y1*x2*y3*y3*y3 - y1*y1*y1*x2*x3*x3*y3 - y1*y1*y1*x2*x3*x3*y3*y3*y3*d + y1*y1*y1*x2*y2*y2*x3*x3*y3*d + y1*y1*y1*x2*x2*y2*x3*y3*y3*d + x1*y2*y3 - x1*y2*y3*y3*y3 + x1*y2*x3*x3*y3 + x1*y2*x3*x3*y3*y3*y3*d + x1*x2*x3 - x1*x2*x3*y3*y3 + x1*x2*x3*x3*x3 + x1*x2*x3*x3*x3*y3*y3*d + x1*x2*y2*y2*x3*y3*y3*d + x1*x2*x2*y2*x3*x3*y3*d - x1*y1*y1*y2*y3 + x1*y1*y1*y2*y3*y3*y3 - x1*y1*y1*y2*x3*x3*y3 - x1*y1*y1*y2*x3*x3*y3*y3*y3*d - x1*y1*y1*x2*x3 + x1*y1*y1*x2*x3*y3*y3 - x1*y1*y1*x2*x3*x3*x3 - x1*y1*y1*x2*x3*x3*x3*y3*y3*d - x1*y1*y1*x2*y2*y2*x3*y3*y3*d + x1*y1*y1*x2*y2*y2*x3*x3*x3*y3*y3*d*d - x1*y1*y1*x2*x2*y2*x3*x3*y3*d - x1*y1*y1*x2*x2*y2*x3*x3*y3*y3*y3*d*d + x1*x1*y1*y2*x3 - x1*x1*y1*y2*x3*y3*y3 + x1*x1*y1*y2*x3*x3*x3 + x1*x1*y1*y2*x3*x3*x3*y3*y3*d + x1*x1*y1*x2*y3 - x1*x1*y1*x2*y3*y3*y3 + x1*x1*y1*x2*x3*x3*y3 + x1*x1*y1*x2*x3*x3*y3*y3*y3*d - x1*x1*y1*x2*y2*y2*x3*x3*y3*d - x1*x1*y1*x2*y2*y2*x3*x3*y3*y3*y3*d*d - x1*x1*y1*x2*x2*y2*x3*y3*y3*d + x1*x1*y1*x2*x2*y2*x3*x3*x3*y3*y3*d*d + x1*x1*x1*y2*y3 - x1*x1*x1*y2*y3*y3*y3 + x1*x1*x1*y2*x3*x3*y3 + x1*x1*x1*y2*x3*x3*y3*y3*y3*d + x1*x1*x1*x2*x3 - x1*x1*x1*x2*x3*y3*y3 + x1*x1*x1*x2*x3*x3*x3 + x1*x1*x1*x2*x3*x3*x3*y3*y3*d + x1*x1*x1*x2*y2*y2*x3*y3*y3*d + x1*x1*x1*x2*x2*y2*x3*x3*y3*d) * (y2 * y2 - x2 * x2 - 1 - d * x2 * x2 * y2 * y2) + (0 - y1*y2*x3 + y1*y2*y2*y2*x3 - y1*x2*y3 + y1*x2*y2*y2*y3 - y1*x2*x2*y2*x3 - y1*x2*x2*x2*y3 + y1*y1*y1*y2*x3 - y1*y1*y1*y2*y2*y2*x3 + y1*y1*y1*x2*y3 - y1*y1*y1*x2*y2*y2*y3 + y1*y1*y1*x2*x2*y2*x3 + y1*y1*y1*x2*x2*x2*y3 - x1*y2*y3 + x1*y2*y2*y2*y3 - x1*x2*x3 + x1*x2*y2*y2*x3 - x1*x2*x2*y2*y3 - x1*x2*x2*x2*x3 + x1*y1*y1*y2*y3 - x1*y1*y1*y2*y2*y2*y3 + x1*y1*y1*x2*x3 - x1*y1*y1*x2*y2*y2*x3 - x1*y1*y1*x2*y2*y2*x3*d + x1*y1*y1*x2*x2*y2*y3 + x1*y1*y1*x2*x2*y2*y3*d + x1*y1*y1*x2*x2*x2*x3 - x1*x1*y1*y2*x3 + x1*x1*y1*y2*y2*y2*x3 - x1*x1*y1*x2*y3 + x1*x1*y1*x2*y2*y2*y3 + x1*x1*y1*x2*y2*y2*y3*d - x1*x1*y1*x2*x2*y2*x3 - x1*x1*y1*x2*x2*y2*x3*d - x1*x1*y1*x2*x2*x2*y3 - x1*x1*x1*y2*y3 + x1*x1*x1*y2*y2*y2*y3 - x1*x1*x1*x2*x3 + x1*x1*x1*x2*y2*y2*x3 - x1*x1*x1*x2*x2*y2*y3 - x1*x1*x1*x2*x2*x2*x3) * (y3 * y3 - x3 * x3 - 1 - d * x3 * x3 * y3 * y3) := by
    clear h1 h2 h3
    grind
  rw [h1, h2, h3] at e
  grind
theorem assoc2 (d x1 y1 x2 y2 x3 y3 : Fin p) (h1 : y1 * y1 - x1 * x1 - 1 - d * x1 * x1 * y1 * y1 = 0) (h2 : y2 * y2 - x2 * x2 - 1 - d * x2 * x2 * y2 * y2 = 0) (h3 : y3 * y3 - x3 * x3 - 1 - d * x3 * x3 * y3 * y3 = 0) :
    ((y1*y2+x1*x2)*(1+d*x1*y1*x2*y2)*y3+(x1*y2+y1*x2)*(1-d*x1*y1*x2*y2)*x3)*((1+d*x2*y2*x3*y3)*(1-d*x2*y2*x3*y3)-d*(x2*y3+y2*x3)*(y2*y3+x2*x3)*x1*y1) =
    (y1*(y2*y3+x2*x3)*(1+d*x2*y2*x3*y3)+x1*(x2*y3+y2*x3)*(1-d*x2*y2*x3*y3))*((1+d*x1*y1*x2*y2)*(1-d*x1*y1*x2*y2)-d*(x1*y2+y1*x2)*(y1*y2+x1*x2)*x3*y3) := by
  have e : ((y1*y2+x1*x2)*(1+d*x1*y1*x2*y2)*y3+(x1*y2+y1*x2)*(1-d*x1*y1*x2*y2)*x3)*((1+d*x2*y2*x3*y3)*(1-d*x2*y2*x3*y3)-d*(x2*y3+y2*x3)*(y2*y3+x2*x3)*x1*y1) -
    (y1*(y2*y3+x2*x3)*(1+d*x2*y2*x3*y3)+x1*(x2*y3+y2*x3)*(1-d*x2*y2*x3*y3))*((1+d*x1*y1*x2*y2)*(1-d*x1*y1*x2*y2)-d*(x1*y2+y1*x2)*(y1*y2+x1*x2)*x3*y3) =
    (y1*x2*y2*y2*y2*y2*x3*y3*y3*d - y1*x2*x2*y2*y2*y2*y3*d + y1*x2*x2*y2*y2*y2*y3*y3*y3*d - y1*x2*x2*x2*y2*y2*x3*d - y1*x2*x2*x2*y2*y2*x3*x3*x3*d - y1*x2*x2*x2*y2*y2*y2*y2*x3*y3*y3*d*d - y1*x2*x2*x2*x2*y2*x3*x3*y3*d - y1*x2*x2*x2*x2*y2*y2*y2*x3*x3*y3*d*d - x1*x2*y2*y2*y2*y2*x3*x3*y3*d - x1*x2*x2*y2*y2*y2*x3*d - x1*x2*x2*y2*y2*y2*x3*x3*x3*d - x1*x2*x2*x2*y2*y2*y3*d + x1*x2*x2*x2*y2*y2*y3*y3*y3*d + x1*x2*x2*x2*y2*y2*y2*y2*x3*x3*y3*d*d + x1*x2*x2*x2*x2*y2*x3*y3*y3*d + x1*x2*x2*x2*x2*y2*y2*y2*x3*y3*y3*d*d) * (y1 * y1 - x1 * x1 - 1 - d * x1 * x1 * y1 * y1) + (y1*y2*y3 - y1*y2*y3*y3*y3 + y1*y2*x3*x3*y3 + y1*y2*x3*x3*y3*y3*y3*d + y1*x2*x3 - y1*x2*x3*y3*y3 + y1*x2*x3*x3*x3 + y1*x2*x3*x3*x3*y3*y3*d + y1*x2*y2*y2*x3*y3*y3*d + y1*x2*x2*y2*x3*x3*y3*d - y1*y1*y1*y2*y3 + y1*y1*y1*y2*y3*y3*y3 - y1*y1*y1*y2*x3*x3*y3 - y1*y1*y1*y2*x3*x3*y3*y3*y3*d - y1*y1*y1*x2*x3 + y1*y1*y1*x2*x3*y3*y3 - y1*y1*y1*x2*x3*x3*x3 - y1*y1*y1*x2*x3*x3*x3*y3*y3*d - y1*y1*y1*x2*y2*y2*x3*y3*y3*d - y1*y1*y1*x2*x2*y2*x3*x3*y3*d + x1*y2*x3 - x1*y2*x3*y3*y3 + x1*y2*x3*x3*x3 + x1*y2*x3*x3*x3*y3*y3*d + x1*x2*y3 - x1*x2*y3*y3*y3 + x1*x2*x3*x3*y3 + x1*x2*x3*x3*y3*y3*y3*d - x1*x2*y2*y2*x3*x3*y3*d - x1*x2*x2*y2*x3*y3*y3*d - x1*y1*y1*y2*x3 + x1*y1*y1*y2*x3*y3*y3 - x1*y1*y1*y2*x3*x3*x3 - x1*y1*y1*y2*x3*x3*x3*y3*y3*d - x1*y1*y1*x2*y3 + x1*y1*y1*x2*y3*y3*y3 - x1*y1*y1*x2*x3*x3*y3 - x1*y1*y1*x2*x3*x3*y3*y3*y3*d + x1*y1*y1*x2*y2*y2*x3*x3*y3*d + x1*y1*y1*x2*y2*y2*x3*x3*y3*y3*y3*d*d + x1*y1*y1*x2*x2*y2*x3*y3*y3*d - x1*y1*y1*x2*x2*y2*x3*x3*x3*y3*y3*d*d + x1*x1*y1*y2*y3 - x1*x1*y1*y2*y3*y3*y3 + x1*x1*y1*y2*x3*x3*y3 + x1*x1*y1*y2*x3*x3*y3*y3*y3*d + x1*x1*y1*x2*x3 - x1*x1*y1*x2*x3*y3*y3 + x1*x1*y1*x2*x3*x3*x3 + x1*x1*y1*x2*x3*x3*x3*y3*y3*d + x1*x1*y1*x2*y2*y2*x3*y3*y3*d - x1*x1*y1*x2*y2*y2*x3*x3*x3*y3*y3*d*d + x1*x1*y1*x2*x2*y2*x3*x3*y3*d + x1*x1*y1*x2*x2*y2*x3*x3*y3*y3*y3*d*d + x1*x1*x1*y2*x3 - x1*x1*x1*y2*x3*y3*y3 + x1*x1*x1*y2*x3*x3*x3 + x1*x1*x1*y2*x3*x3*x3*y3*y3*d + x1*x1*x1*x2*y3 - x1*x1*x1*x2*y3*y3*y3 + x1*x1*x1*x2*x3*x3*y3 + x1*x1*x1*x2*x3*x3*y3*y3*y3*d - x1*x1*x1*x2*y2*y2*x3*x3*y3*d - x1*x1*x1*x2*x2*y2*x3*y3*y3*d) * (y2 * y2 - x2 * x2 - 1 - d * x2 * x2 * y2 * y2) + (0 - y1*y2*y3 + y1*y2*y2*y2*y3 - y1*x2*x3 + y1*x2*y2*y2*x3 - y1*x2*x2*y2*y3 - y1*x2*x2*x2*x3 + y1*y1*y1*y2*y3 - y1*y1*y1*y2*y2*y2*y3 + y1*y1*y1*x2*x3 - y1*y1*y1*x2*y2*y2*x3 + y1*y1*y1*x2*x2*y2*y3 + y1*y1*y1*x2*x2*x2*x3 - x1*y2*x3 + x1*y2*y2*y2*x3 - x1*x2*y3 + x1*x2*y2*y2*y3 - x1*x2*x2*y2*x3 - x1*x2*x2*x2*y3 + x1*y1*y1*y2*x3 - x1*y1*y1*y2*y2*y2*x3 + x1*y1*y1*x2*y3 - x1*y1*y1*x2*y2*y2*y3 - x1*y1*y1*x2*y2*y2*y3*d + x1*y1*y1*x2*x2*y2*x3 + x1*y1*y1*x2*x2*y2*x3*d + x1*y1*y1*x2*x2*x2*y3 - x1*x1*y1*y2*y3 + x1*x1*y1*y2*y2*y2*y3 - x1*x1*y1*x2*x3 + x1*x1*y1*x2*y2*y2*x3 + x1*x1*y1*x2*y2*y2*x3*d - x1*x1*y1*x2*x2*y2*y3 - x1*x1*y1*x2*x2*y2*y3*d - x1*x1*y1*x2*x2*x2*x3 - x1*x1*x1*y2*x3 + x1*x1*x1*y2*y2*y2*x3 - x1*x1*x1*x2*y3 + x1*x1*x1*x2*y2*y2*y3 - x1*x1*x1*x2*x2*y2*x3 - x1*x1*x1*x2*x2*x2*y3) * (y3 * y3 - x3 * x3 - 1 - d * x3 * x3 * y3 * y3) := by
    clear h1 h2 h3
    grind
  rw [h1, h2, h3] at e
  grind
/-- What a sum's parts are over one denominator. -/
theorem over1 (a c b e x y d : Fin p) (p1 q1 s : Fin p) (hp : p1 * b = a) (hq : q1 * e = c) (hs : s * (1 + d * p1 * q1 * x * y) = p1 * y + q1 * x) : s * (b * e + d * a * c * x * y) = a * e * y + c * b * x := by
  subst hp; subst hq
  grind
theorem over2 (a c b e x y d : Fin p) (p1 q1 s : Fin p) (hp : p1 * b = a) (hq : q1 * e = c) (hs : s * (1 - d * p1 * q1 * x * y) = q1 * y + p1 * x) : s * (b * e - d * a * c * x * y) = c * b * y + a * e * x := by
  subst hp; subst hq
  grind
theorem over0 (a c b e x y d : Fin p) (p1 q1 : Fin p) (hp : p1 * b = a) (hq : q1 * e = c) : b * e * (1 + d * p1 * q1 * x * y) = b * e + d * a * c * x * y := by
  subst hp; subst hq
  grind
theorem over3 (a c b e x y d : Fin p) (p1 q1 : Fin p) (hp : p1 * b = a) (hq : q1 * e = c) : b * e * (1 - d * p1 * q1 * x * y) = b * e - d * a * c * x * y := by
  subst hp; subst hq
  grind
theorem on0 {x y : Fin p} (h : On d x y) : y * y - x * x - 1 - d * x * x * y * y = 0 := by
  unfold On at h
  grind
theorem sw1 {s d x y u v : Fin p} (h : s * (1 + d * x * y * u * v) = x * v + y * u) : s * (1 + d * u * v * x * y) = u * y + v * x := by grind
theorem sw2 {s d x y u v : Fin p} (h : s * (1 - d * x * y * u * v) = y * v + x * u) : s * (1 - d * u * v * x * y) = v * y + u * x := by grind
theorem sw3 (d x y u v : Fin p) : d * x * y * u * v = d * u * v * x * y := by grind
theorem sw4 (A E C B x y : Fin p) : A * E * y + C * B * x = x * C * B + y * A * E := by grind
theorem sw5 (A E C B x y : Fin p) : C * B * y + A * E * x = y * C * B + x * A * E := by grind
theorem fin (G : Gd d inv) {l m a b n k k' : Fin p} (hl : l * a = n) (hm : m * b = k') (h : n * b = k * a) (hk : k' = k) (ha : a ≠ 0) (hb : b ≠ 0) : l = m := by
  refine G.can (G.nz ha hb) ?_
  subst hk; subst hl; subst hm
  grind
theorem ad_assoc (G : Gd d inv) {P Q R : Fin p × Fin p} (h1 : On d P.1 P.2) (h2 : On d Q.1 Q.2) (h3 : On d R.1 R.2) : ad d inv (ad d inv P Q) R = ad d inv P (ad d inv Q R) := by
  have o12 := ad_on G h1 h2
  have o23 := ad_on G h2 h3
  have a1 := ad1 G h1 h2
  have a2 := ad2 G h1 h2
  have b1 := ad1 G h2 h3
  have b2 := ad2 G h2 h3
  have c1 := ad1 G o12 h3
  have c2 := ad2 G o12 h3
  have d1 := sw1 (ad1 G h1 o23)
  have d2 := sw2 (ad2 G h1 o23)
  have n1 := den G h1 h2
  have n2 := den G h2 h3
  have n3 := den G o12 h3
  have n4 := den G h1 o23
  have A1 := assoc1 d _ _ _ _ _ _ (on0 h1) (on0 h2) (on0 h3)
  have A2 := assoc2 d _ _ _ _ _ _ (on0 h1) (on0 h2) (on0 h3)
  generalize ad d inv (ad d inv P Q) R = L at *
  generalize ad d inv P (ad d inv Q R) = M at *
  generalize ad d inv P Q = S at *
  generalize ad d inv Q R = T at *
  obtain ⟨x1, y1⟩ := P
  obtain ⟨x2, y2⟩ := Q
  obtain ⟨x3, y3⟩ := R
  obtain ⟨xs, ys⟩ := S
  obtain ⟨xt, yt⟩ := T
  obtain ⟨xl, yl⟩ := L
  obtain ⟨xm, ym⟩ := M
  simp only at *
  have L1 := over1 _ _ _ _ _ _ _ _ _ _ a1 a2 c1
  have L2 := over2 _ _ _ _ _ _ _ _ _ _ a1 a2 c2
  have L0 := over0 _ _ _ _ x3 y3 d _ _ a1 a2
  have L3 := over3 _ _ _ _ x3 y3 d _ _ a1 a2
  have M1 := over1 _ _ _ _ _ _ _ _ _ _ b1 b2 d1
  have M2 := over2 _ _ _ _ _ _ _ _ _ _ b1 b2 d2
  have M0 := over0 _ _ _ _ x1 y1 d _ _ b1 b2
  have M3 := over3 _ _ _ _ x1 y1 d _ _ b1 b2
  rw [sw3 d x1 y1 xt yt] at n4
  have z0 := G.nz (G.nz n1.1 n1.2) n3.1
  have z3 := G.nz (G.nz n1.1 n1.2) n3.2
  have w0 := G.nz (G.nz n2.1 n2.2) n4.1
  have w3 := G.nz (G.nz n2.1 n2.2) n4.2
  rw [L0] at z0
  rw [L3] at z3
  rw [M0] at w0
  rw [M3] at w3
  exact Prod.ext (fin G L1 M1 A1 (sw4 _ _ _ _ _ _) z0 w0) (fin G L2 M2 A2 (sw5 _ _ _ _ _ _) z3 w3)
theorem on_zero : On d 0 1 := by unfold On; grind
theorem ad_zero (G : Gd d inv) {P : Fin p × Fin p} (h : On d P.1 P.2) : ad d inv P (0, 1) = P := by
  have e1 := ad1 G (Q := (0, 1)) h on_zero
  have e2 := ad2 G (Q := (0, 1)) h on_zero
  simp only at e1 e2
  refine Prod.ext ?_ ?_ <;> grind
theorem zero_ad (G : Gd d inv) {P : Fin p × Fin p} (h : On d P.1 P.2) : ad d inv (0, 1) P = P := by rw [ad_comm, ad_zero G h]
theorem on_neg {x y : Fin p} (h : On d x y) : On d (-x) y := by unfold On at *; grind
theorem ad_neg (G : Gd d inv) {P : Fin p × Fin p} (h : On d P.1 P.2) : ad d inv P (-P.1, P.2) = (0, 1) := by
  have e1 := ad1 G (Q := (-P.1, P.2)) h (on_neg h)
  have e2 := ad2 G (Q := (-P.1, P.2)) h (on_neg h)
  have n := den G (x2 := -P.1) (y2 := P.2) h (on_neg h)
  unfold On at h
  simp only at e1 e2
  refine Prod.ext ?_ ?_
  · refine G.can n.1 ?_
    simp only
    rw [e1]; grind
  · refine G.can n.2 ?_
    simp only
    rw [e2]; grind
/-- So often. -/
def so (d : Fin p) (inv : Fin p → Fin p) (P : Fin p × Fin p) : Nat → Fin p × Fin p
  | 0 => (0, 1)
  | n + 1 => ad d inv (so d inv P n) P
theorem so_on (G : Gd d inv) {P : Fin p × Fin p} (h : On d P.1 P.2) : ∀ n, On d (so d inv P n).1 (so d inv P n).2
  | 0 => on_zero
  | n + 1 => ad_on G (so_on G h n) h
theorem so_add (G : Gd d inv) {P : Fin p × Fin p} (h : On d P.1 P.2) (n : Nat) : ∀ m, so d inv P (n + m) = ad d inv (so d inv P n) (so d inv P m)
  | 0 => (ad_zero G (so_on G h n)).symm
  | m + 1 => by
    show ad d inv (so d inv P (n + m)) P = ad d inv (so d inv P n) (ad d inv (so d inv P m) P)
    rw [so_add G h n m, ad_assoc G (so_on G h n) (so_on G h m) h]
/-- A point in four numbers. -/
structure Pj (p : Nat) where
  x : Fin p
  y : Fin p
  z : Fin p
  t : Fin p
structure Rep (d : Fin p) (q : Pj p) (P : Fin p × Fin p) : Prop where
  z : q.z ≠ 0
  x : q.x = P.1 * q.z
  y : q.y = P.2 * q.z
  t : q.t = P.1 * P.2 * q.z
  on : On d P.1 P.2
def onJ (d : Fin p) (q : Pj p) : Prop := q.z ≠ 0 ∧ q.t * q.z = q.x * q.y ∧ q.y * q.y - q.x * q.x = q.z * q.z + d * (q.t * q.t)
def sameJ (q r : Pj p) : Prop := q.x * r.z = r.x * q.z ∧ q.y * r.z = r.y * q.z
def addJ (d : Fin p) (q r : Pj p) : Pj p :=
  let a := (q.y - q.x) * (r.y - r.x)
  let b := (q.y + q.x) * (r.y + r.x)
  let c := q.t * (d + d) * r.t
  let e := (q.z + q.z) * r.z
  ⟨(b - a) * (e - c), (e + c) * (b + a), (e - c) * (e + c), (b - a) * (b + a)⟩
theorem Rep.onJ {q : Pj p} {P : Fin p × Fin p} (h : Rep d q P) : onJ d q := by
  refine ⟨h.z, ?_, ?_⟩
  · rw [h.t, h.x, h.y]; grind
  · rw [h.t, h.x, h.y]
    have := h.on
    unfold On at this
    grind
theorem rep_of (G : Gd d inv) {q : Pj p} (h : onJ d q) : ∃ P, Rep d q P := by
  obtain ⟨hz, ht, hc⟩ := h
  have hi := G.inv q.z hz
  generalize inv q.z = i at hi
  refine ⟨(q.x * i, q.y * i), hz, ?_, ?_, ?_, ?_⟩
  · simp only; grind
  · simp only; grind
  · refine G.can hz ?_
    simp only
    rw [ht]; grind
  · have ht2 : q.t = q.x * q.y * i := G.can hz (by rw [ht]; grind)
    unfold On
    simp only
    rw [ht2] at hc
    grind
theorem same_rep (G : Gd d inv) {q r : Pj p} {P Q : Fin p × Fin p} (h : Rep d q P) (k : Rep d r Q) : sameJ q r ↔ P = Q := by
  unfold sameJ
  rw [h.x, h.y, k.x, k.y]
  constructor
  · rintro ⟨h1, h2⟩
    refine Prod.ext ?_ ?_
    · refine G.can (G.nz h.z k.z) ?_
      grind
    · refine G.can (G.nz h.z k.z) ?_
      grind
  · rintro rfl
    exact ⟨by grind, by grind⟩
theorem aj0 (d x y u v z w : Fin p) : ((z + z) * w - x * y * z * (d + d) * (u * v * w)) * ((z + z) * w + x * y * z * (d + d) * (u * v * w)) = 4 * (z * z) * (w * w) * ((1 + d * x * y * u * v) * (1 - d * x * y * u * v)) := by grind
theorem ajg (d x y u v z w : Fin p) : (z + z) * w - x * y * z * (d + d) * (u * v * w) = 2 * (z * w) * (1 - d * x * y * u * v) := by grind
theorem ajh (d x y u v z w : Fin p) : (z + z) * w + x * y * z * (d + d) * (u * v * w) = 2 * (z * w) * (1 + d * x * y * u * v) := by grind
theorem ajf (x y u v z w : Fin p) : (y * z + x * z) * (v * w + u * w) - (y * z - x * z) * (v * w - u * w) = 2 * (z * w) * (x * v + y * u) := by grind
theorem aji (x y u v z w : Fin p) : (y * z + x * z) * (v * w + u * w) + (y * z - x * z) * (v * w - u * w) = 2 * (z * w) * (y * v + x * u) := by grind
theorem ajx (k a b x : Fin p) : k * (x * a) * (k * b) = x * (k * b * (k * a)) := by grind
theorem ajy (k a b y : Fin p) : k * a * (k * (y * b)) = y * (k * b * (k * a)) := by grind
theorem ajt (k a b x y : Fin p) : k * (x * a) * (k * (y * b)) = x * y * (k * b * (k * a)) := by grind
theorem add_rep (G : Gd d inv) {q r : Pj p} {P Q : Fin p × Fin p} (h : Rep d q P) (k : Rep d r Q) : Rep d (addJ d q r) (ad d inv P Q) := by
  have e1 := ad1 G h.on k.on
  have e2 := ad2 G h.on k.on
  have ⟨n1, n2⟩ := den G h.on k.on
  have ho := ad_on G h.on k.on
  generalize ad d inv P Q = S at *
  obtain ⟨x, y, z, t⟩ := q
  obtain ⟨x', y', z', t'⟩ := r
  obtain ⟨hz, hx, hy, ht, _⟩ := h
  obtain ⟨kz, kx, ky, kt, _⟩ := k
  simp only at *
  subst hx; subst hy; subst ht; subst kx; subst ky; subst kt
  refine ⟨?_, ?_, ?_, ?_, ho⟩
  · have hn := G.nz (G.nz (G.nz G.two (G.nz hz kz)) n2) (G.nz (G.nz G.two (G.nz hz kz)) n1)
    unfold addJ
    simp only
    rw [ajg, ajh]
    exact hn
  · unfold addJ
    simp only
    rw [ajg, ajh, ajf, ← e1]
    exact ajx _ _ _ _
  · unfold addJ
    simp only
    rw [ajg, ajh, aji, ← e2]
    exact ajy _ _ _ _
  · unfold addJ
    simp only
    rw [ajg, ajh, ajf, aji, ← e1, ← e2]
    exact ajt _ _ _ _ _
def zeroJ : Pj p := ⟨0, 1, 1, 0⟩
def negJ (q : Pj p) : Pj p := ⟨-q.x, q.y, q.z, -q.t⟩
theorem zero_rep (G : Gd d inv) : Rep d zeroJ (0, 1) := by
  refine ⟨G.one, ?_, ?_, ?_, on_zero⟩
  · show (0 : Fin p) = 0 * 1; grind
  · show (1 : Fin p) = 1 * 1; grind
  · show (0 : Fin p) = 0 * 1 * 1; grind
theorem ng1 (a z : Fin p) : -(a * z) = -a * z := by grind
theorem ng2 (a b z : Fin p) : -(a * b * z) = -a * b * z := by grind
theorem neg_rep {q : Pj p} {P : Fin p × Fin p} (h : Rep d q P) : Rep d (negJ q) (-P.1, P.2) := by
  refine ⟨h.z, ?_, h.y, ?_, on_neg h.on⟩
  · show -q.x = -P.1 * q.z
    rw [h.x, ng1]
  · show -q.t = -P.1 * P.2 * q.z
    rw [h.t, ng2]
theorem Gd.den1 (G : Gd d inv) (y : Fin p) : 1 + d * (y * y) ≠ 0 := fun e => by
  obtain ⟨i, hi⟩ := G.im
  have hy : y ≠ 0 := fun e0 => G.one (by grind)
  have hj := G.inv y hy
  exact G.non (i * inv y) (by grind)
theorem Gd.on_sq (G : Gd d inv) {x x' y : Fin p} (h : On d x y) (h' : On d x' y) : x * x = x' * x' := by
  refine G.can (G.den1 y) ?_
  unfold On at h h'
  grind
theorem Gd.sq_opp (G : Gd d inv) {x y : Fin p} (h : x * x = y * y) : x = y ∨ x = -y := by
  have : (x - y) * (x + y) = 0 := by grind
  rcases G.mul this with e | e
  · exact .inl (by grind)
  · exact .inr (by grind)
theorem Gd.up (G : Gd d inv) {x v : Fin p} (h : x * x = (v * v - 1) * inv (d * (v * v) + 1)) : On d x v := by
  have hD : d * (v * v) + 1 ≠ 0 := fun e => G.den1 v (by grind)
  have hj := G.inv _ hD
  generalize inv (d * (v * v) + 1) = j at *
  unfold On
  grind
theorem aff_rep (G : Gd d inv) {x y : Fin p} (h : On d x y) : Rep d ⟨x, y, 1, x * y⟩ (x, y) := by
  refine ⟨G.one, ?_, ?_, ?_, h⟩
  · show x = x * 1; grind
  · show y = y * 1; grind
  · show x * y = x * y * 1; grind
theorem inv_mul {a z i : Fin p} (h : z * i = 1) : a * z * i = a := by grind
theorem neg0 : -(0 : Fin p) = 0 := by grind
end
end Go.Proofs.YtfpphinnngblgaaDoor.Crv
