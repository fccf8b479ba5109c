import Derived.Test.YtnmaaijeamlplaaDoorRows
import Derived.Test.YtnmaaijeamlplaaDoorNum
import Derived.WalkKit
import Derived.ProofKit
import Derived.Lib.Hide
import Derived.IntWalk
import Derived.WalkSmall
import Derived.BigQuiet
import Derived.StillTailTactics
import Derived.Stop.BytesEq
set_option linter.unusedVariables false
set_option linter.unusedSimpArgs false
namespace Go.Proofs.YtnmaaijeamlplaaDoor.Arr
open Go.RowKit
open Go.Proofs.YtnmaaijeamlplaaDoor.Num (up)
def rowOf (k : IntKind) (f : Nat → Nat) (n : Nat) : Array Value := ((List.range n).map fun j => Value.int k (f j : Int)).toArray
theorem rowOf_size (k : IntKind) (f : Nat → Nat) (n : Nat) : (rowOf k f n).size = n := by simp [rowOf]
theorem rowOf_get (k : IntKind) (f : Nat → Nat) (n j : Nat) (h : j < n) : (rowOf k f n)[j]? = some (.int k (f j : Int)) := by
 unfold rowOf
 rw [List.getElem?_toArray, List.getElem?_map, List.getElem?_range h]; rfl
theorem rowOf_one (k : IntKind) (f : Nat → Nat) (n : Nat) : (rowOf k f n).all (·.oneCell') = true := by
 rw [Array.all_eq_true_iff_forall_mem]
 intro x hx
 unfold rowOf at hx
 rw [List.mem_toArray, List.mem_map] at hx
 obtain ⟨_, _, rfl⟩ := hx
 rfl
theorem rowOf_congr {k : IntKind} {f g : Nat → Nat} {n : Nat} (h : ∀ j, j < n → f j = g j) : rowOf k f n = rowOf k g n := by
 unfold rowOf
 congr 1
 exact List.map_congr_left fun j hj => by rw [h j (List.mem_range.1 hj)]
theorem rowOf_set (k : IntKind) (f : Nat → Nat) (n i x : Nat) : (rowOf k f n).setIfInBounds i (.int k (x : Int)) = rowOf k (up f i x) n := by
 apply Array.ext
 ·simp [rowOf_size]
 intro j h1 h2
 rw [rowOf_size] at h2
 have e2 := rowOf_get k (up f i x) n j h2
 have e1 : ((rowOf k f n).setIfInBounds i (.int k (x : Int)))[j]? = some (.int k ((up f i x j : Nat) : Int)) := by
  rw [Array.getElem?_setIfInBounds, rowOf_size, rowOf_get k f n j h2]
  unfold up
  by_cases hij : i = j
  ·subst hij; simp [h2]
  rw [if_neg hij, if_neg (fun e => hij e.symm)]
 rw [← e1] at e2
 rw [Array.getElem?_eq_getElem h1, Array.getElem?_eq_getElem (by rw [rowOf_size]; exact h2)] at e2
 exact (Option.some.inj e2).symm
def Row (w : World) (B n T : Nat) (k : IntKind) (f : Nat → Nat) : Prop := w.heap[B]? = some (.cells (rowOf k f n) T (0, 0))
section
variable {w w' : World} {B n T : Nat} {k : IntKind} {f : Nat → Nat}
theorem Row.heap (h : Row w B n T k f) : w.heap[B]? = some (.cells (rowOf k f n) T (0, 0)) := h
theorem Row.at (h : Row w B n T k f) (j : Nat) (hj : j < n) : w.cell? ⟨B, j, none⟩ = some (.int k (f j : Int)) ∧ w.frozen? ⟨B, j, none⟩ = false :=
 ⟨by rw [cell_of_row w B j _ T (0, 0) h, rowOf_get k f n j hj], frozen_of_row w B j _ T h⟩
theorem Row.set (h : Row w B n T k f) (i x : Nat) : Row (w.setCell ⟨B, i, none⟩ (.int k (x : Int))) B n T k (up f i x) := by
 unfold Row
 rw [heap_setCell_same w B i _ T _ h, rowOf_set]
theorem Row.other (h : Row w B n T k f) (p : Addr) (v : Value) (hp : p.block ≠ B) : Row (w.setCell p v) B n T k f := by
 unfold Row
 rw [heap_setCell_other w p B v (fun e => hp e.symm)]; exact h
theorem Row.below {b : Nat} (h : Row w B n T k f) (hb : Below b w w') (hB : B < b) : Row w' B n T k f := by
 unfold Row
 rw [hb.block B hB]; exact h
theorem Row.drew (h : Row w B n T k f) : Row w.drew B n T k f := h
theorem Row.drewN (h : Row w B n T k f) (m : Nat) : Row (w.drewN m) B n T k f := h
theorem Row.lt (h : Row w B n T k f) : B < w.heap.size := (Array.getElem?_eq_some_iff.1 h).1
theorem Row.lit (w : World) (T n : Nat) (c : Array Value) (k : IntKind) (f : Nat → Nat) (hc : c = rowOf k f n) : Row (w.alloc (.cells c T)) w.heap.size n T k f := by
 unfold Row
 rw [heap_alloc_new w _, hc]
theorem Row.setRow {n' : Nat} {g : Nat → Nat} (h : Row w B n T k f) (hn : n = n') : Row (w.setRow B (rowOf k g n')) B n T k g := by
 subst hn
 exact setRow_heap w B _ _ T (0, 0) h
theorem Row.setRow_other {g : Nat} {cs : Array Value} (h : Row w B n T k f) (hg : B ≠ g) : Row (w.setRow g cs) B n T k f := by
 unfold Row
 rw [Go.setRow_other w g B cs hg]; exact h
theorem Row.congr {g : Nat → Nat} (h : Row w B n T k f) (hg : ∀ j, j < n → f j = g j) : Row w B n T k g := by
 unfold Row at h ⊢
 rw [h, rowOf_congr hg]
end
theorem below_setRow {b : Nat} {a w : World} {g : Nat} {cs : Array Value} (h : Below b a w) (hg : b ≤ g) : Below b a (w.setRow g cs) :=
 h.trans ⟨rfl, rfl, rfl, by simp, fun k hk => setRow_other w g k cs (by omega)⟩
end Go.Proofs.YtnmaaijeamlplaaDoor.Arr
