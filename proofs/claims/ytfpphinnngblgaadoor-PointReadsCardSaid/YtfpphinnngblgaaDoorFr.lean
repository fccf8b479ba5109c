/- The blocks that a call has made first: what they hold. -/
import Derived.Test.YtfpphinnngblgaaDoorArr
namespace Go.Proofs.YtfpphinnngblgaaDoor.Arr
open Go.RowKit

/-- The blocks from w's size on hold these cells; what was there at w is as it was. -/
structure Fr (w W : World) (l : List (Array Value × TypeId)) : Prop where
  at' : ∀ i c T, l[i]? = some (c, T) → W.heap[w.heap.size + i]? = some (.cells c T (0, 0))
  below : Below w.heap.size w W
  len : w.heap.size + l.length ≤ W.heap.size
theorem Fr.nil (w : World) : Fr w w [] := ⟨fun i c T h => by simp at h, Below.refl _ _, Nat.le_refl _⟩
theorem Fr.push {w W : World} {l : List (Array Value × TypeId)} (h : Fr w W l) (hs : W.heap.size = w.heap.size + l.length) (c : Array Value) (T : TypeId) :
    Fr w (W.alloc (.cells c T)) (l ++ [(c, T)]) := by
  refine ⟨fun i c' T' hi => ?_, h.below.alloc (by omega) _, by simp; omega⟩
  by_cases hl : i < l.length
  · rw [List.getElem?_append_left hl] at hi
    have := h.at' i c' T' hi
    exact (_root_.Go.heap_alloc_old W _ (by omega)).trans this
  · rw [List.getElem?_append_right (by omega)] at hi
    have h0 : i - l.length = 0 := by
      cases hk : i - l.length with
      | zero => rfl
      | succ k => rw [hk] at hi; simp at hi
    rw [h0] at hi
    simp at hi
    obtain ⟨rfl, rfl⟩ := hi
    rw [show w.heap.size + i = W.heap.size by omega]
    exact heap_alloc_new W _
theorem push_size (W : World) (o : Obj) (n : Nat) (h : W.heap.size = n) : (W.alloc o).heap.size = n + 1 := by simp [h]
theorem Fr.one (w : World) (c : Array Value) (T : TypeId) : Fr w (w.alloc (.cells c T)) [(c, T)] := (Fr.nil w).push rfl c T
theorem Fr.two (w : World) (c d : Array Value) (T U : TypeId) : Fr w ((w.alloc (.cells c T)).alloc (.cells d U)) [(c, T), (d, U)] :=
  (Fr.one w c T).push (push_size _ _ _ rfl) d U
theorem Fr.three (w : World) (c d e : Array Value) (T U V : TypeId) : Fr w (((w.alloc (.cells c T)).alloc (.cells d U)).alloc (.cells e V)) [(c, T), (d, U), (e, V)] :=
  (Fr.two w c d T U).push (push_size _ _ _ (push_size _ _ _ rfl)) e V
theorem Fr.four (w : World) (c d e f : Array Value) (T U V X : TypeId) : Fr w ((((w.alloc (.cells c T)).alloc (.cells d U)).alloc (.cells e V)).alloc (.cells f X)) [(c, T), (d, U), (e, V), (f, X)] :=
  (Fr.three w c d e T U V).push (push_size _ _ _ (push_size _ _ _ (push_size _ _ _ rfl))) f X
theorem Fr.five (w : World) (c d e f g : Array Value) (T U V X Y : TypeId) : Fr w (((((w.alloc (.cells c T)).alloc (.cells d U)).alloc (.cells e V)).alloc (.cells f X)).alloc (.cells g Y)) [(c, T), (d, U), (e, V), (f, X), (g, Y)] :=
  (Fr.four w c d e f T U V X).push (push_size _ _ _ (push_size _ _ _ (push_size _ _ _ (push_size _ _ _ rfl)))) g Y
section
variable {w W W' : World} {l : List (Array Value × TypeId)}
theorem Fr.call (h : Fr w W l) (hb : Below W.heap.size W W') : Fr w W' l :=
  ⟨fun i c T hi => by
    have hl : i < l.length := (List.getElem?_eq_some_iff.1 hi).1
    rw [hb.block _ (by have := h.len; omega)]; exact h.at' i c T hi, h.below.trans (hb.mono h.below.size), Nat.le_trans h.len hb.size⟩
theorem Fr.stay (h : Fr w W l) (hb : Below W.heap.size W W') : Fr w W' l := h.call hb
theorem Fr.drew (h : Fr w W l) : Fr w W.drew l := ⟨h.at', h.below.drew, h.len⟩
theorem Fr.drewN (h : Fr w W l) (m : Nat) : Fr w (W.drewN m) l := ⟨h.at', below_drewN h.below m, h.len⟩
theorem Fr.set (h : Fr w W l) (i : Nat) {c : Array Value} {T : TypeId} (hi : l[i]? = some (c, T)) (d : Array Value) : Fr w (W.setRow (w.heap.size + i) d) (l.set i (d, T)) := by
  refine ⟨fun j c' T' hj => ?_, below_setRow h.below (by omega), by simpa using h.len⟩
  have hl : i < l.length := (List.getElem?_eq_some_iff.1 hi).1
  by_cases e : j = i
  · subst e
    rw [List.getElem?_set_self hl] at hj
    simp at hj
    obtain ⟨rfl, rfl⟩ := hj
    exact setRow_heap _ _ _ _ _ _ (h.at' j c T hi)
  · rw [List.getElem?_set_ne (fun e' => e e'.symm)] at hj
    rw [Go.setRow_other W _ _ d (by omega)]
    exact h.at' j c' T' hj
theorem Fr.other (h : Fr w W l) (g : Nat) (d : Array Value) (hg : w.heap.size + l.length ≤ g) : Fr w (W.setRow g d) l :=
  ⟨fun j c' T' hj => by
    have hl : j < l.length := (List.getElem?_eq_some_iff.1 hj).1
    rw [Go.setRow_other W _ _ d (by omega)]; exact h.at' j c' T' hj, below_setRow h.below (by omega), by simpa using h.len⟩
/-- One cell of one block is written. -/
theorem Fr.put (h : Fr w W l) (i : Nat) {c : Array Value} {T : TypeId} (hi : l[i]? = some (c, T)) (j : Nat) (v : Value) (d : Array Value) (hd : c.setIfInBounds j v = d) : Fr w (W.setCell ⟨w.heap.size + i, j, none⟩ v) (l.set i (d, T)) := by
  have e : W.setCell ⟨w.heap.size + i, j, none⟩ v = W.setRow (w.heap.size + i) (c.setIfInBounds j v) := setCell_eq_setRow W _ j c T (0, 0) v (h.at' i c T hi)
  rw [e, hd]
  exact h.set i hi d
theorem Fr.pre {m : List (Array Value × TypeId)} (h : Fr w W (l ++ m)) : Fr w W l :=
  ⟨fun i c T hi => h.at' i c T (by rw [List.getElem?_append_left (List.getElem?_eq_some_iff.1 hi).1]; exact hi), h.below, by have := h.len; simp at this; omega⟩
theorem Fr.alloc (h : Fr w W l) (o : Obj) : Fr w (W.alloc o) l := h.call ((Below.refl _ _).alloc (Nat.le_refl _) _)
end
end Go.Proofs.YtfpphinnngblgaaDoor.Arr
