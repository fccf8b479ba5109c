import Derived.Test.YtnmaaijeamlplaaDoorSz
import Derived.Laws.IdiomStrings
import Derived.Laws.MakeOwn
import Derived.Laws.AppendOwn
import Derived.Deep.Onto
import Derived.Deep.AppendLies
set_option linter.unusedVariables false
set_option linter.unusedSimpArgs false
namespace Go.Proofs.YtnmaaijeamlplaaDoor.Mem
open Go.RowKit
def NF (n : Nat) (fz : Nat × Nat) : Prop := fz.2 ≤ fz.1 ∨ n ≤ fz.1
def Blk (W : World) (g : Nat) (c : Array Value) (T : TypeId) : Prop := ∃ fz, W.heap[g]? = some (.cells c T fz) ∧ NF c.size fz
section
variable {w W W' : World} {g g' : Nat} {c d : Array Value} {T : TypeId}
theorem Blk.lt (h : Blk W g c T) : g < W.heap.size := by obtain ⟨_, h, _⟩ := h; exact (Array.getElem?_eq_some_iff.1 h).1
theorem Blk.of_heap (h : Blk W g c T) (e : W'.heap[g]? = W.heap[g]?) : Blk W' g c T := by obtain ⟨fz, h, hn⟩ := h; exact ⟨fz, e.trans h, hn⟩
theorem Blk.call (h : Blk W g c T) (hb : Below W.heap.size W W') : Blk W' g c T := h.of_heap (hb.block _ h.lt)
theorem Blk.new (W : World) (c : Array Value) (T : TypeId) : Blk (W.alloc (.cells c T)) W.heap.size c T := ⟨(0, 0), heap_alloc_new W _, .inl (Nat.le_refl _)⟩
theorem Blk.set (h : Blk W g c T) (hd : d.size = c.size) : Blk (W.setRow g d) g d T := by
 obtain ⟨fz, h, hn⟩ := h
 exact ⟨fz, setRow_heap _ _ _ _ _ _ h, by rw [NF, hd]; exact hn⟩
theorem Blk.other (h : Blk W g c T) (hg : g ≠ g') : Blk (W.setRow g' d) g c T := h.of_heap (Go.setRow_other W g' g d hg)
theorem Blk.drew (h : Blk W g c T) : Blk W.drew g c T := h
theorem Blk.cell (h : Blk W g c T) (j : Nat) : W.cell? ⟨g, j, none⟩ = c[j]? := by obtain ⟨fz, h, _⟩ := h; exact cell_of_row W g j c T fz h
theorem Blk.frozen (h : Blk W g c T) (j : Nat) (hj : j < c.size) : W.frozen? ⟨g, j, none⟩ = false := by
 obtain ⟨⟨lo, hi⟩, h, hn⟩ := h
 unfold World.frozen?
 simp only [h]
 simp only [NF] at hn
 simp only [Bool.and_eq_false_iff, decide_eq_false_iff_not]
 omega
theorem Blk.setCell (h : Blk W g c T) (j : Nat) (v : Value) : W.setCell ⟨g, j, none⟩ v = W.setRow g (c.setIfInBounds j v) := by
 obtain ⟨fz, h, _⟩ := h
 exact setCell_eq_setRow W g j c T fz v h
end
theorem add_lit (g o i : Nat) : (⟨g, o, none⟩ : Addr).add i = ⟨g, o + i, none⟩ := by unfold Addr.add; split <;> simp_all
def Seal (R : World → Prop) (F : Nat → Prop) (W : World) : Prop :=
 (∀ g, F g → g < W.heap.size) ∧ R W ∧ ∀ W' : World, (∀ g, F g → W'.heap[g]? = W.heap[g]?) → R W'
def Gives (w W : World) (S : Nat → Prop) (R : World → Prop) : Prop := ∃ F, Seal R F W ∧ ∀ g, F g → w.heap.size ≤ g ∨ S g
section
variable {w W W' : World} {R R' : World → Prop} {F F' S S' : Nat → Prop}
theorem Seal.out (h : Seal R F W) : R W := h.2.1
theorem Seal.keep (h : Seal R F W) (hW : ∀ g, F g → W'.heap[g]? = W.heap[g]?) : Seal R F W' := by
 refine ⟨fun g hg => ?_, h.2.2 W' hW, fun W2 h2 => h.2.2 W2 fun g hg => (h2 g hg).trans (hW g hg)⟩
 have h1 := h.1 g hg
 have h2 := hW g hg
 rw [Array.getElem?_eq_getElem h1] at h2
 exact (Array.getElem?_eq_some_iff.1 h2).1
theorem Seal.below (h : Seal R F W) (hb : Below W.heap.size W W') : Seal R F W' := h.keep fun g hg => hb.block g (h.1 g hg)
theorem Seal.mono (h : Seal R F W) (f : ∀ W, R W → R' W) : Seal R' F W := ⟨h.1, f _ h.2.1, fun W' h' => f _ (h.2.2 W' h')⟩
theorem Seal.and (h : Seal R F W) (k : Seal R' F' W) : Seal (fun W => R W ∧ R' W) (fun g => F g ∨ F' g) W :=
 ⟨fun g hg => hg.elim (h.1 g) (k.1 g), ⟨h.2.1, k.2.1⟩, fun W' hW => ⟨h.2.2 W' fun g hg => hW g (.inl hg), k.2.2 W' fun g hg => hW g (.inr hg)⟩⟩
theorem Seal.pure {p : Prop} (h : p) : Seal (fun _ => p) (fun _ => False) W := ⟨fun _ h => h.elim, h, fun _ _ => h⟩
theorem Gives.and (h : Gives w W S R) (k : Gives w W S R') : Gives w W S (fun W => R W ∧ R' W) := by
 obtain ⟨F, h1, h2⟩ := h
 obtain ⟨F', k1, k2⟩ := k
 exact ⟨_, h1.and k1, fun g hg => hg.elim (h2 g) (k2 g)⟩
theorem Gives.mono (h : Gives w W S R) (f : ∀ W, R W → R' W) : Gives w W S R' := by
 obtain ⟨F, h1, h2⟩ := h
 exact ⟨F, h1.mono f, h2⟩
theorem Gives.out (h : Gives w W S R) : R W := by obtain ⟨F, h1, _⟩ := h; exact h1.out
theorem Gives.pure {p : Prop} (h : p) : Gives w W S (fun _ => p) := ⟨_, Seal.pure h, fun _ h => h.elim⟩
theorem Gives.below (h : Gives w W S R) (hb : Below W.heap.size W W') : Gives w W' S R := by
 obtain ⟨F, h1, h2⟩ := h
 exact ⟨F, h1.below hb, h2⟩
end
inductive Ent where
 | blk (g : Nat) (c : Array Value) (T : TypeId)
 | row (v : Value) (n : Nat) (xs : List Value) (e : TypeId) (size : Nat)
 | see (R : World → Prop) (F : Nat → Prop)
 | fam (vs : List Value) (ls : List (List Value)) (e : TypeId)
 | itr (g : Nat) (s : ByteArray) (pos : Nat)
def Ent.own : Ent → Nat → Prop
 | .blk g _ _, g' => g = g'
 | .row v _ _ _ _, g' => v.ownBlock = some g'
 | .see _ _, _ => False
 | .fam vs _ _, g' => ∃ (k : Nat) (v : Value), vs[k]? = some v ∧ v.ownBlock = some g'
 | .itr g _ _, g' => g = g'
def Ent.uses (x : Ent) (g : Nat) : Prop := match x with
 | .see _ F => F g
 | x => x.own g
def Ent.plain : Ent → Bool
 | .see _ _ => false
 | _ => true
def Fam (W : World) (vs : List Value) (ls : List (List Value)) (e : TypeId) : Prop :=
 vs.length = ls.length ∧ (∀ (k : Nat) (v : Value) (l : List Value), vs[k]? = some v → ls[k]? = some l → W.ownsRow 0 e 1 v l.length l) ∧
  ∀ (i j : Nat) (v v' : Value) (g : Nat), i ≠ j → vs[i]? = some v → vs[j]? = some v' → v.ownBlock = some g → v'.ownBlock ≠ some g
def Ent.ok (W : World) : Ent → Prop
 | .blk g c T => Blk W g c T
 | .row v n xs e size => W.ownsRow 0 e size v n xs
 | .see R F => Seal R F W
 | .fam vs ls e => Fam W vs ls e
 | .itr g s pos => W.heap[g]? = some (.stringIter s pos)
theorem Ent.own_uses {x : Ent} {g : Nat} (h : x.own g) : x.uses g := by
 cases x <;> first | exact h | exact h.elim
theorem row_kept {W W' : World} {e : TypeId} {size : Nat} {v : Value} {n : Nat} {xs : List Value} (h : W.ownsRow 0 e size v n xs) (hg : ∀ g, v.ownBlock = some g → W'.heap[g]? = W.heap[g]?) : W'.ownsRow 0 e size v n xs := by
 refine ⟨h.1, ?_⟩
 rcases h.2 with hn | ⟨g, cap, cur, rfl, hb, hgg, rest⟩
 ·exact .inl hn
 exact .inr ⟨g, cap, cur, rfl, hb, (hg g rfl).trans hgg, rest⟩
theorem Fam.at {W : World} {vs : List Value} {ls : List (List Value)} {e : TypeId} (h : Fam W vs ls e) {k : Nat} {v : Value} (hv : vs[k]? = some v) : ∃ l, ls[k]? = some l ∧ W.ownsRow 0 e 1 v l.length l := by
 have hk : k < ls.length := by rw [← h.1]; exact (List.getElem?_eq_some_iff.1 hv).1
 exact ⟨_, List.getElem?_eq_getElem hk, h.2.1 k v _ hv (List.getElem?_eq_getElem hk)⟩
section
variable {w W W' : World} {x : Ent} {r : Option Nat}
theorem Ent.ok.lt (h : x.ok W) {g : Nat} (hg : x.uses g) : g < W.heap.size := by
 cases x with
 | blk g' c T => obtain rfl : g' = g := hg; exact Blk.lt h
 | row v n xs e size => exact (World.ownsRow.lt h g hg).2
 | see R F => exact h.1 g hg
 | fam vs ls e =>
  obtain ⟨k, v, hv, hg⟩ := hg
  obtain ⟨l, _, hl⟩ := Fam.at h hv
  exact (hl.lt g hg).2
 | itr g' s pos => obtain rfl : g' = g := hg; exact (Array.getElem?_eq_some_iff.1 h).1
theorem Ent.ok.kept (h : x.ok W) (hg : ∀ g, x.uses g → W'.heap[g]? = W.heap[g]?) : x.ok W' := by
 cases x with
 | blk g c T => exact Blk.of_heap h (hg g rfl)
 | row v n xs e size => exact row_kept h hg
 | see R F => exact Seal.keep h hg
 | fam vs ls e => exact ⟨h.1, fun k v l hv hl => row_kept (h.2.1 k v l hv hl) (fun g hb => hg g ⟨k, v, hv, hb⟩), h.2.2⟩
 | itr g s pos => exact (hg g rfl).trans h
end
structure Mm (r : Option Nat) (S : Nat → Prop) (w W : World) (l : List Ent) : Prop where
 ok : ∀ (i : Nat) (x : Ent), l[i]? = some x → x.ok W
 low : ∀ (i : Nat) (x : Ent) (g : Nat), l[i]? = some x → x.own g → w.heap.size ≤ g ∨ r = some g
 src : ∀ (i : Nat) (R : World → Prop) (F : Nat → Prop) (g : Nat), l[i]? = some (.see R F) → F g → w.heap.size ≤ g ∨ S g
 ne : ∀ (i j : Nat) (x y : Ent) (g : Nat), l[i]? = some x → l[j]? = some y → i ≠ j → x.own g → ¬ y.uses g
 frame : w.grownBy W r
theorem grown_refl (w : World) (r : Option Nat) : w.grownBy w r := ⟨rfl, rfl, rfl, Nat.le_refl _, fun _ _ _ => rfl⟩
theorem grown_trans {a b c : World} {r : Option Nat} (h : a.grownBy b r) (k : b.grownBy c r) : a.grownBy c r :=
 ⟨k.os.trans h.os, k.tape.trans h.tape, k.output.trans h.output, Nat.le_trans h.size k.size, fun i hi hr => (k.block i (Nat.lt_of_lt_of_le hi h.size) hr).trans (h.block i hi hr)⟩
theorem below_of {w W : World} (h : w.grownBy W none) : Below w.heap.size w W := ⟨h.os, h.tape, h.output, h.size, fun k hk => h.block k hk (by simp)⟩
theorem grown_of {w W : World} (h : Below w.heap.size w W) (r : Option Nat) : w.grownBy W r := ⟨h.os, h.tape, h.output, h.size, fun k hk _ => h.block k hk⟩
section
variable {r : Option Nat} {S : Nat → Prop} {w W W' : World} {l : List Ent} {g : Nat} {c d : Array Value} {T : TypeId} {R : World → Prop} {F : Nat → Prop}
theorem Mm.nil (r : Option Nat) (S : Nat → Prop) (w : World) : Mm r S w w [] := ⟨fun i x h => by simp at h, fun i x g h => by simp at h, fun i R F g h => by simp at h, fun i j x y g h => by simp at h, grown_refl _ _⟩
theorem Mm.below (h : Mm none S w W l) : Below w.heap.size w W := below_of h.frame
theorem Mm.at (h : Mm r S w W l) (i : Nat) (hi : l[i]? = some (.blk g c T)) : Blk W g c T := h.ok i _ hi
theorem Mm.row (h : Mm r S w W l) (i : Nat) {v : Value} {n : Nat} {xs : List Value} {e : TypeId} {size : Nat} (hi : l[i]? = some (.row v n xs e size)) : W.ownsRow 0 e size v n xs := h.ok i _ hi
theorem Mm.seal (h : Mm r S w W l) (i : Nat) (hi : l[i]? = some (.see R F)) : Seal R F W := h.ok i _ hi
theorem Mm.see (h : Mm r S w W l) (i : Nat) (hi : l[i]? = some (.see R F)) : R W := (h.seal i hi).out
theorem Mm.call (h : Mm r S w W l) (hb : Below W.heap.size W W') : Mm r S w W' l :=
 ⟨fun i x hi => (h.ok i x hi).kept fun g hg => hb.block g ((h.ok i x hi).lt hg), h.low, h.src, h.ne, grown_trans h.frame (grown_of hb r)⟩
theorem Mm.drew (h : Mm r S w W l) : Mm r S w W.drew l := ⟨fun i x hi => (h.ok i x hi).kept fun _ _ => rfl, h.low, h.src, h.ne, ⟨h.frame.os, h.frame.tape, h.frame.output, h.frame.size, h.frame.block⟩⟩
theorem get_snoc {x : Ent} : ∀ (i : Nat) (y : Ent), (l ++ [x])[i]? = some y → (i < l.length ∧ l[i]? = some y) ∨ (i = l.length ∧ y = x) := by
 intro i y hi
 by_cases hl : i < l.length
 ·rw [List.getElem?_append_left hl] at hi; exact .inl ⟨hl, hi⟩
 rw [List.getElem?_append_right (by omega)] at hi
 cases hk : i - l.length with
 | zero => rw [hk] at hi; simp at hi; exact .inr ⟨by omega, hi.symm⟩
 | succ k => rw [hk] at hi; simp at hi
theorem Mm.moreG (h : Mm r S w W l) (hb : Below W.heap.size W W') {x : Ent} (hx : x.ok W') (hn : ∀ g, x.own g → W.heap.size ≤ g) (hu : ∀ g, x.uses g → ∀ (i : Nat) (y : Ent), l[i]? = some y → ¬ y.own g)
  (hs : ∀ R F g, x = .see R F → F g → w.heap.size ≤ g ∨ S g) : Mm r S w W' (l ++ [x]) := by
 have h' := h.call hb
 refine ⟨fun i y hi => ?_, fun i y g hi hg => ?_, fun i R F g hi hg => ?_, fun i j y z g hi hj hij hg hz => ?_, h'.frame⟩
 ·rcases get_snoc _ _ hi with ⟨_, h1⟩ | ⟨_, rfl⟩
  ·exact h'.ok _ _ h1
  exact hx
 ·rcases get_snoc _ _ hi with ⟨_, h1⟩ | ⟨_, rfl⟩
  ·exact h.low _ _ _ h1 hg
  exact .inl (Nat.le_trans h.frame.size (hn g hg))
 ·rcases get_snoc _ _ hi with ⟨_, h1⟩ | ⟨_, e⟩
  ·exact h.src _ _ _ _ h1 hg
  exact hs _ _ _ e.symm hg
 rcases get_snoc _ _ hi with ⟨_, h1⟩ | ⟨e1, rfl⟩
 ·rcases get_snoc _ _ hj with ⟨_, h2⟩ | ⟨_, rfl⟩
  ·exact h.ne _ _ _ _ _ h1 h2 hij hg hz
  exact hu g hz _ _ h1 hg
 rcases get_snoc _ _ hj with ⟨_, h2⟩ | ⟨e2, rfl⟩
 ·exact absurd (hn g hg) (Nat.not_le.2 ((h.ok _ _ h2).lt hz))
 omega
theorem Mm.more (h : Mm r S w W l) (hb : Below W.heap.size W W') {x : Ent} (hx : x.ok W') (hn : ∀ g, x.uses g → W.heap.size ≤ g) : Mm r S w W' (l ++ [x]) :=
 h.moreG hb hx (fun g hg => hn g (Ent.own_uses hg)) (fun g hg i y hi hy => absurd (hn g hg) (Nat.not_le.2 ((h.ok _ _ hi).lt (Ent.own_uses hy))))
  (fun R F g e hg => .inl (Nat.le_trans h.frame.size (hn g (by rw [e]; exact hg))))
theorem Mm.alloc (h : Mm r S w W l) (c : Array Value) (T : TypeId) : Mm r S w (W.alloc (.cells c T)) (l ++ [.blk W.heap.size c T]) :=
 h.more ((Below.refl _ _).alloc (Nat.le_refl _) _) (Blk.new W c T) (fun g hg => by have hg : W.heap.size = g := hg; omega)
theorem Mm.came (h : Mm none S w W l) (hs : Seal R F w) (hS : ∀ g, F g → S g) : Mm none S w W (l ++ [.see R F]) :=
 h.moreG (Below.refl _ _) (Seal.below hs h.below) (fun g hg => hg.elim)
  (fun g hg i y hi hy => by
   rcases h.low i y g hi hy with h1 | h1
   ·exact absurd h1 (Nat.not_le.2 (hs.1 g hg))
   cases h1)
  (fun R' F' g e hg => by
   simp only [Ent.see.injEq] at e
   exact .inr (hS g (by rw [e.2]; exact hg)))
theorem Mm.apart (h : Mm r S w W l) (i : Nat) (hi : l[i]? = some (.see R F)) (hg : F g) (j : Nat) (y : Ent) (hj : l[j]? = some y) : ¬ y.own g := by
 intro hy
 by_cases e : j = i
 ·subst e
  rw [hi] at hj
  obtain rfl := Option.some.inj hj
  exact hy
 exact h.ne j i y (.see R F) g hj hi e hy hg
theorem Mm.took {T : Nat → Prop} (h : Mm r S w W l) (hb : Below W.heap.size W W') (hg : Gives W W' T R) (ht : ∀ g, T g → ∃ (i : Nat) (R' : World → Prop) (F' : Nat → Prop), l[i]? = some (.see R' F') ∧ F' g) : ∃ F, Mm r S w W' (l ++ [.see R F]) := by
 obtain ⟨F, h1, h2⟩ := hg
 refine ⟨F, h.moreG hb h1 (fun g hg => hg.elim) (fun g hg i y hi hy => ?_) (fun R' F' g e hg => ?_)⟩
 ·rcases h2 g hg with h3 | h3
  ·exact absurd h3 (Nat.not_le.2 ((h.ok _ _ hi).lt (Ent.own_uses hy)))
  obtain ⟨k, R', F', hk, hF⟩ := ht g h3
  exact h.apart k hk hF i y hi hy
 simp only [Ent.see.injEq] at e
 obtain ⟨rfl, rfl⟩ := e
 rcases h2 g hg with h3 | h3
 ·exact .inl (Nat.le_trans h.frame.size h3)
 obtain ⟨k, R', F', hk, hF⟩ := ht g h3
 exact h.src k R' F' g hk hF
theorem get_set {i : Nat} {x y : Ent} (hi : l[i]? = some x) : ∀ (j : Nat) (z : Ent), (l.set i y)[j]? = some z → (j = i ∧ z = y) ∨ (j ≠ i ∧ l[j]? = some z) := by
 have hl : i < l.length := (List.getElem?_eq_some_iff.1 hi).1
 intro j z hj
 by_cases e : j = i
 ·subst e; rw [List.getElem?_set_self hl] at hj; simp at hj; exact .inl ⟨rfl, hj.symm⟩
 rw [List.getElem?_set_ne (fun e' => e e'.symm)] at hj; exact .inr ⟨e, hj⟩
theorem Mm.changeG (h : Mm r S w W l) (i : Nat) {x y : Ent} (hi : l[i]? = some x) {o : Option Nat} (hg : W.grownBy W' o) (ho : ∀ g, o = some g → x.own g) (hy : y.ok W') (hu : ∀ g, y.uses g → x.uses g ∨ W.heap.size ≤ g) (hn : ∀ g, y.own g → x.own g ∨ W.heap.size ≤ g)
  (hs : ∀ R F g, y = .see R F → F g → w.heap.size ≤ g ∨ S g) : Mm r S w W' (l.set i y) := by
 have key := get_set (y := y) hi
 have old : ∀ (j : Nat) (z : Ent), l[j]? = some z → j ≠ i → ∀ g, z.uses g → g < W.heap.size ∧ ¬ x.own g := fun j z hj hji g hz =>
  ⟨(h.ok j z hj).lt hz, fun hx => h.ne i j x z g hi hj (fun e => hji e.symm) hx hz⟩
 refine ⟨fun j z hj => ?_, fun j z g hj hz => ?_, fun j R F g hj hz => ?_, fun j k z z' g hj hk hjk hz hz' => ?_, ?_⟩
 ·rcases key _ _ hj with ⟨_, rfl⟩ | ⟨e, h1⟩
  ·exact hy
  exact (h.ok _ _ h1).kept fun g hz => hg.block g (old _ _ h1 e g hz).1 (fun e' => (old _ _ h1 e g hz).2 (ho g e'.symm))
 ·rcases key _ _ hj with ⟨_, rfl⟩ | ⟨e, h1⟩
  ·rcases hn g hz with hx | hx
   ·exact h.low _ _ _ hi hx
   exact .inl (Nat.le_trans h.frame.size hx)
  exact h.low _ _ _ h1 hz
 ·rcases key _ _ hj with ⟨_, e1⟩ | ⟨e, h1⟩
  ·exact hs _ _ _ e1.symm hz
  exact h.src _ _ _ _ h1 hz
 ·rcases key _ _ hj with ⟨e1, rfl⟩ | ⟨e, h1⟩
  ·rcases key _ _ hk with ⟨e2, rfl⟩ | ⟨e2, h2⟩
   ·omega
   rcases hn g hz with hx | hx
   ·exact (old _ _ h2 e2 g hz').2 hx
   exact absurd hx (Nat.not_le.2 (old _ _ h2 e2 g hz').1)
  rcases key _ _ hk with ⟨e2, rfl⟩ | ⟨e2, h2⟩
  ·rcases hu g hz' with hx | hx
   ·exact h.ne j i z x g h1 hi e hz hx
   exact absurd hx (Nat.not_le.2 (old _ _ h1 e g (Ent.own_uses hz)).1)
  exact h.ne _ _ _ _ _ h1 h2 hjk hz hz'
 refine ⟨hg.os.trans h.frame.os, hg.tape.trans h.frame.tape, hg.output.trans h.frame.output, Nat.le_trans h.frame.size hg.size, fun k hk hr => ?_⟩
 refine (hg.block k (Nat.lt_of_lt_of_le hk h.frame.size) fun e => ?_).trans (h.frame.block k hk hr)
 rcases h.low i x k hi (ho k e.symm) with h1 | h1
 ·omega
 exact hr h1.symm
theorem Mm.change (h : Mm r S w W l) (i : Nat) {x y : Ent} (hi : l[i]? = some x) {o : Option Nat} (hg : W.grownBy W' o) (ho : ∀ g, o = some g → x.own g) (hy : y.ok W') (hn : ∀ g, y.own g → x.own g ∨ W.heap.size ≤ g) (hp : y.plain = true := by rfl) : Mm r S w W' (l.set i y) := by
 refine h.changeG i hi hg ho hy (fun g hu => ?_) hn (fun R F g e => by rw [e] at hp; cases hp)
 have : y.own g := by cases y <;> first | exact hu | cases hp
 exact (hn g this).imp (fun h => Ent.own_uses h) id
theorem grown_set (W : World) (g : Nat) (d : Array Value) : W.grownBy (W.setRow g d) (some g) :=
 ⟨rfl, rfl, rfl, by simp, fun k _ hr => Go.setRow_other W g k d (fun e => hr (by rw [e]))⟩
theorem Mm.set (h : Mm r S w W l) (i : Nat) (hi : l[i]? = some (.blk g c T)) (d : Array Value) (hd : d.size = c.size) : Mm r S w (W.setRow g d) (l.set i (.blk g d T)) :=
 h.change i hi (grown_set W g d) (fun _ e => Option.some.inj e) ((h.at i hi).set hd) (fun _ e => .inl e)
theorem Mm.put (h : Mm r S w W l) (i : Nat) (hi : l[i]? = some (.blk g c T)) (j : Nat) (v : Value) (hd : c.setIfInBounds j v = d) : Mm r S w (W.setCell ⟨g, j, none⟩ v) (l.set i (.blk g d T)) := by
 rw [(h.at i hi).setCell j v, hd]
 exact h.set i hi d (by rw [← hd, Array.size_setIfInBounds])
theorem Mm.reorder (h : Mm r S w W l) (p : List Nat) (hp : p.Nodup) (ha : (p.all fun i => decide (i < l.length)) = true) : Mm r S w W (p.map fun i => l.getD i (.blk 0 #[] 0)) := by
 have key : ∀ (k : Nat) (x : Ent), (p.map fun i => l.getD i (.blk 0 #[] 0))[k]? = some x → ∃ i, p[k]? = some i ∧ l[i]? = some x := by
  intro k x hk
  rw [List.getElem?_map] at hk
  cases hpk : p[k]? with
  | none => rw [hpk] at hk; cases hk
  | some i =>
   have hi : i < l.length := by
    rw [List.all_eq_true] at ha
    exact of_decide_eq_true (ha i (List.mem_of_getElem? hpk))
   rw [hpk] at hk
   simp only [Option.map_some, Option.some.injEq] at hk
   refine ⟨i, rfl, ?_⟩
   rw [List.getD_eq_getElem?_getD, List.getElem?_eq_getElem hi] at hk
   rw [List.getElem?_eq_getElem hi, ← hk]; rfl
 refine ⟨fun k x hk => ?_, fun k x g hk hg => ?_, fun k R F g hk hg => ?_, fun k m x y g hk hm hkm hx hy => ?_, h.frame⟩
 ·obtain ⟨i, _, hi⟩ := key _ _ hk; exact h.ok _ _ hi
 ·obtain ⟨i, _, hi⟩ := key _ _ hk; exact h.low _ _ _ hi hg
 ·obtain ⟨i, _, hi⟩ := key _ _ hk; exact h.src _ _ _ _ hi hg
 obtain ⟨i, h1, hi⟩ := key _ _ hk
 obtain ⟨j, h2, hj⟩ := key _ _ hm
 refine h.ne _ _ _ _ _ hi hj (fun e => hkm ?_) hx hy
 subst e
 obtain ⟨k1, e1⟩ := List.getElem?_eq_some_iff.1 h1
 obtain ⟨k2, e2⟩ := List.getElem?_eq_some_iff.1 h2
 have hn := List.pairwise_iff_getElem.1 hp
 rcases Nat.lt_trichotomy k m with h3 | h3 | h3
 ·exact absurd (e1.trans e2.symm) (hn k m k1 k2 h3)
 ·exact h3
 exact absurd (e2.trans e1.symm) (hn m k k2 k1 h3)
end
section
variable {P : Program} {Q : Exit → Act → World → Prop} {K : Act → World → Prop} {oi : Oper} {a : Act} {r : Option Nat} {S : Nat → Prop} {w0 w : World} {l : List Ent}
theorem m_alloc {c : Array Value} {T : TypeId} (hm : Mm r S w0 w l) (d : Tmp) (hd : oi.dst = some d) (hrun : (execOp a.eval oi).run P w = .ok (.value (.pointer (some ⟨w.heap.size, 0, none⟩))) (w.alloc (.cells c T)))
  (h : ∀ g w', Mm r S w0 w' (l ++ [.blk g c T]) → K { a with tmps := a.tmps.setIfInBounds d (.pointer (some ⟨g, 0, none⟩)) } w') : oi.wp P a w K Q := by
 unfold Oper.wp
 rw [hrun]
 have := h _ _ (hm.alloc c T)
 show K (a.put oi.dst _) _
 unfold Act.put
 rw [hd]
 exact this
theorem m_make {c : Array Value} {T : TypeId} (v : Nat → Value) (hm : Mm r S w0 w l) (d : Tmp) (hd : oi.dst = some d) (hrun : (execOp a.eval oi).run P w = .ok (.value (v w.heap.size)) (w.alloc (.cells c T)))
  (h : ∀ g w', Mm r S w0 w' (l ++ [.blk g c T]) → K { a with tmps := a.tmps.setIfInBounds d (v g) } w') : oi.wp P a w K Q := by
 unfold Oper.wp
 rw [hrun]
 have := h _ _ (hm.alloc c T)
 show K (a.put oi.dst _) _
 unfold Act.put
 rw [hd]
 exact this
theorem storeCells_blk (g : Nat) (t : TypeId) : ∀ (vs : List Value) (o i : Nat) (cur : Array Value) (w : World), Blk w g cur t → o + i + vs.length ≤ cur.size → (∀ v ∈ vs, v.oneCell' = true) →
  (storeCells ⟨g, o, none⟩ vs i).run P w = .ok () (w.setRow g (cur.toList.take (o + i) ++ vs ++ cur.toList.drop (o + i + vs.length)).toArray)
 | [], o, i, cur, w, hg, _, _ => by
  obtain ⟨fz, hg, _⟩ := hg
  simp only [storeCells, List.append_nil, List.length_nil, Nat.add_zero, List.take_append_drop, Array.toArray_toList]
  rw [setRow_self w g cur t fz hg]
  rfl
 | v :: rest, o, i, cur, w, hg, hl, h1 => by
  have hi : o + i < cur.size := by simp at hl; omega
  have hcell : w.cell? ⟨g, o + i, none⟩ = some cur[o + i] := by rw [hg.cell, Array.getElem?_eq_getElem hi]
  have hfro := hg.frozen (o + i) hi
  have hst : (store ((⟨g, o, none⟩ : Addr).add i) v).run P w = .ok () (w.setRow g (cur.setIfInBounds (o + i) v)) := by
   rw [add_lit, run_store P w _ v _ (h1 v (by simp)), hcell]
   simp [hfro, hg.setCell]
  have ih := storeCells_blk g t rest o (i + 1) (cur.setIfInBounds (o + i) v) (w.setRow g (cur.setIfInBounds (o + i) v)) (hg.set (by simp)) (by simp at hl ⊢; omega) (fun x hx => h1 x (by simp [hx]))
  simp only [storeCells, Sem.run_bind, hst, Result.andThen_ok, ih, setRow_setRow]
  congr 3
  have e := list_seg_step cur.toList (o + i) v rest (by simp at hl ⊢; omega)
  simpa [Array.toList_setIfInBounds, Nat.add_assoc] using e
def into (c : Array Value) (o : Nat) (v : Array Value) : Array Value := (c.toList.take o ++ v.toList ++ c.toList.drop (o + v.size)).toArray
theorem into_size (c v : Array Value) (o : Nat) (h : o + v.size ≤ c.size) : (into c o v).size = c.size := by simp [into]; omega
theorem one_all {v : Value} (h : v.oneCell' = true) : v.cells.all (·.oneCell') = true := by
 cases v <;> simp_all [Value.cells, Value.oneCell']
theorem m_store (i : Nat) (ty : TypeId) (x y : Operand) {g : Nat} (o : Nat) (v : Value) {T : TypeId} {old : Array Value} (hm : Mm r S w0 w l) (hi : l[i]? = some (.blk g old T)) (hd : oi.dst = none)
  (ho : oi.op = .store ty x y) (hx : a.eval x = .pointer (some ⟨g, o, none⟩)) (hy : a.eval y = v) (hz : (P.info? ty).map (·.size) = some v.cells.size)
  (hold : o + v.cells.size ≤ old.size) (h1 : v.cells.all (·.oneCell') = true) {new : Array Value} (hnew : into old o v.cells = new) (h : ∀ w', Mm r S w0 w' (l.set i (.blk g new T)) → K a w') : oi.wp P a w K Q := by
 have hst := storeCells_blk (P := P) g T v.cells.toList o 0 old w (hm.at i hi) (by simpa using hold) (fun v hv => (Array.all_eq_true_iff_forall_mem.1 h1) v (by simpa using hv))
 have hrun : (storeVar ty ⟨g, o, none⟩ v).run P w = .ok () (w.setRow g (into old o v.cells)) := by
  cases hq : P.info? ty with
  | none => simp [hq] at hz
  | some i =>
   have hs : v.cells.size = i.size := by simp [hq] at hz; omega
   have hf : i.size = v.cells.size := hs.symm
   simp only [Nat.add_zero] at hst
   simp [storeVar, sizeOf, typeInfo, hq, hf, hst, into]
 unfold Oper.wp execOp
 simp only [ho, hx, hy, Instr.storeAt, Instr.sureAddr, Sem.run_bind, Sem.run_pure, Result.andThen_ok, hrun]
 show K (a.put oi.dst undef) _
 unfold Act.put
 rw [hd]
 refine h _ ?_
 rw [← hnew]
 exact hm.set i hi _ (into_size _ _ _ hold)
theorem m_call {f : FuncId} {args : Array Value} (hm : Mm r S w0 w l) (d : Tmp) (v : Value) (hd : oi.dst = some d) (hrun : (execOp a.eval oi).run P w = .ok (.enter f args) w) (hc : Calls P f args w fun e w' => e = .returned v ∧ Below w.heap.size w w')
  (h : ∀ w', Mm r S w0 w' l → K { a with tmps := a.tmps.setIfInBounds d v } w') : oi.wp P a w K Q :=
 Sym.w_enter d v hd hrun hc fun w' hb => h w' (hm.call hb)
theorem m_callx {f : FuncId} {args : Array Value} {R : Value → World → Prop} (hm : Mm r S w0 w l) (d : Tmp) (hd : oi.dst = some d) (hrun : (execOp a.eval oi).run P w = .ok (.enter f args) w) (hc : Calls P f args w fun e w' => (∃ v, e = .returned v ∧ R v w') ∧ Below w.heap.size w w')
  (h : ∀ v w', R v w' → Below w.heap.size w w' → Mm r S w0 w' l → K { a with tmps := a.tmps.setIfInBounds d v } w') : oi.wp P a w K Q := by
 unfold Oper.wp
 rw [hrun]
 show Calls P f args w _
 refine hc.mono ?_
 rintro e w' ⟨⟨v, rfl, hv⟩, hb⟩
 have := h v w' hv hb (hm.call hb)
 show K (a.put oi.dst v) w'
 unfold Act.put
 rw [hd]
 exact this
theorem Mm.gained {W W' : World} {v : Value} {n : Nat} {xs : List Value} {e : TypeId} {size : Nat} (h : Mm r S w0 W l) (hb : Below W.heap.size W W') (hv : W'.ownsRow W.heap.size e size v n xs) : Mm r S w0 W' (l ++ [.row v n xs e size]) :=
 h.more hb (hv.mono (Nat.zero_le _)) (fun g hg => (hv.lt g hg).1)
theorem nextcap_sharp {need old : Nat} (h : old < need) : Builtin.nextslicecap need old ≤ need + need / 4 + 512 := by
 unfold Builtin.nextslicecap
 split
 ·omega
 split
 ·omega
 rw [growBy_four]
 repeat' split
 all_goals omega
theorem cap_fits {need old bytes : Nat} (h : old < need) (hb : bytes ≤ 4096) (h2 : need * bytes ≤ 180000000000000) : Builtin.nextslicecap need old * bytes ≤ 281474976710656 := by
 have a := Nat.mul_le_mul_right bytes (nextcap_sharp h)
 rw [Nat.add_mul, Nat.add_mul] at a
 have b : need / 4 * bytes * 4 ≤ need * bytes := by
  rw [Nat.mul_assoc, Nat.mul_comm bytes 4, ← Nat.mul_assoc]
  exact Nat.mul_le_mul_right _ (Nat.div_mul_le_self need 4)
 omega
theorem run_append_wide {P : Program} {w : World} (t ty e : TypeId) (i : TypeInfo) (z : Value) (size bytes : Nat) (ht : P.underlying t = some (.slice e)) (hi : P.info? e = some i) (hz : i.zero = some z)
  (hsize : i.size = size) (hby : i.bytes = bytes) (hzs : z.cells.size = size) (hsz : 0 < size) (v : Value) (n : Nat) (xs : List Value) (hown : w.ownsRow 0 e size v n xs)
  (a : Addr) (m c : Nat) (news : List Value) (hl : news.length = m * size) (hnews : ∀ j u, news[j]? = some u → w.cell? (a.add j) = some u) (h1 : ∀ u ∈ news, u.oneCell' = true)
  (h63 : n + m ≤ maxLen) (hbb : bytes ≤ 4096) (hbytes : (n + m) * bytes ≤ 180000000000000) :
  ∃ v' w', (Builtin.append_ #[t, t] ty #[v, .slice (some a) m c]).run P w = .ok v' w' ∧ w'.ownsRow 0 e size v' (n + m) (xs ++ news) ∧ w.grownBy w' v.ownBlock ∧
   (v' = .slice none 0 0 ↔ v = .slice none 0 0 ∧ m = 0) ∧ (v'.ownBlock = v.ownBlock ∨ v'.ownBlock = some w.heap.size) := by
 by_cases hs : (n + m) * bytes ≤ 140737488355328
 ·exact run_append_own_at (P := P) w 0 t ty e i z size bytes ht hi hz hsize hby hzs hsz v n xs hown a m c news hl hnews h1 h63 hs (Nat.zero_le _)
 subst hsize
 subst hby
 have hsmall : n + m ≤ 9223372036854775807 := by simp only [maxLen] at h63; omega
 have hlen : (xs ++ news).length = (n + m) * i.size := by rw [List.length_append, hown.1, hl, Nat.add_mul]
 have hlx := hown.1
 have grown : ∀ (old : Nat), old < n + m → ∀ (row : Option Nat),
   (w.drew.alloc (.cells (xs.toArray ++ news.toArray ++ Builtin.zeroCells z.cells (grownCap w (n + m) old e - (n + m))) e)).ownsRow 0 e i.size
    (.slice (some ⟨w.heap.size, 0, none⟩) (n + m) (grownCap w (n + m) old e)) (n + m) (xs ++ news) ∧
   w.grownBy (w.drew.alloc (.cells (xs.toArray ++ news.toArray ++ Builtin.zeroCells z.cells (grownCap w (n + m) old e - (n + m))) e)) row := by
  intro old ho row
  have hge := grownCap_ge w (n + m) old e
  have hcm : grownCap w (n + m) old e ≤ maxLen := grownCap_le_maxLen w (n + m) old e h63
  refine ⟨⟨hlen, .inr ⟨w.heap.size, _, _, rfl, Nat.zero_le _, heap_alloc_new w.drew _, hge, hcm, ?_, ?_⟩⟩, ⟨rfl, rfl, rfl, by simp, fun k hk _ => heap_alloc_old w.drew _ hk⟩⟩
  ·simp only [Array.size_append, List.size_toArray, size_zeroCells, hzs, hlx, hl, ← Nat.add_mul]
   congr 1
   omega
  simp only [Array.toList_append, List.append_assoc]
  rw [← List.append_assoc, ← hlen]
  exact List.take_left
 rcases hown.2 with ⟨rfl, rfl⟩ | ⟨g, cap, cur, rfl, hbg, hg, hnc, hcm, hcs, htake⟩
 ·have hx : xs = [] := List.eq_nil_of_length_eq_zero (by simpa using hown.1)
  subst hx
  by_cases hm : m = 0
  ·subst hm
   simp at hs
  have hr := run_append_nil (P := P) w t ty e i z ht hi hz a m c news hl hnews (by omega) (by omega) (by have hb := hbytes; simp only [Nat.zero_add] at hb; omega)
  have hgr := grown 0 (by omega) (Value.ownBlock (.slice none 0 0))
  simp only [Nat.zero_add, List.nil_append, Array.empty_append] at hgr ⊢
  exact ⟨_, _, hr, hgr.1, hgr.2, by simp [hm], .inr rfl⟩
 by_cases hroom : n + m ≤ cap
 ·have hfit : n * i.size + news.length ≤ cur.size := by rw [hl, hcs, ← Nat.add_mul]; exact Nat.mul_le_mul_right _ hroom
  have hr := run_append_room (P := P) w t ty e i ht hi g n cap cur hg a m c news hl hnews h1 hroom hfit
  refine ⟨_, _, hr, ⟨hlen, .inr ⟨g, cap, _, rfl, hbg, setRow_heap w g cur _ e _ hg, hroom, hcm, ?_, ?_⟩⟩, ⟨rfl, rfl, rfl, by simp, fun k _ hk => setRow_other w g k _ (fun e => hk (by simp [Value.ownBlock, e]))⟩, by simp, .inl rfl⟩
  ·simp only [List.size_toArray, List.length_append, List.length_take, List.length_drop, Array.length_toList]
   omega
  rw [htake, ← hlen]
  exact List.take_left
 have holds : ∀ j u, xs[j]? = some u → w.cell? ((⟨g, 0, none⟩ : Addr).add j) = some u := hown.cells (g := g) rfl
 have hr := run_append_grow (P := P) w t ty e i z ht hi hz ⟨g, 0, none⟩ n cap xs hown.1 holds a m c news hl hnews (by omega) (by omega) (cap_fits (by omega) hbb hbytes)
 have hgr := grown cap (by omega) (Value.ownBlock (.slice (some ⟨g, 0, none⟩) n cap))
 exact ⟨_, _, hr, hgr.1, hgr.2, by simp, .inr rfl⟩
theorem m_append (i : Nat) {v : Value} {n m c : Nat} {xs news : List Value} {e : TypeId} {size bytes : Nat} (inf : TypeInfo) (z : Value) (s x : Operand) (t : TypeId) (ad : Addr) (hm : Mm r S w0 w l) (hi : l[i]? = some (.row v n xs e size)) (d : Tmp) (hd : oi.dst = some d)
  (ho : oi.op = .call { callee := .builtin .append, args := #[s, x], argTypes := #[t, t] }) (ht : P.underlying t = some (.slice e)) (hinf : P.info? e = some inf) (hz : inf.zero = some z)
  (hsize : inf.size = size) (hby : inf.bytes = bytes) (hzs : z.cells.size = size) (hsz : 0 < size) (hs : a.eval s = v) (hx : a.eval x = .slice (some ad) m c) (hl : news.length = m * size) (hnews : ∀ j u, news[j]? = some u → w.cell? (ad.add j) = some u) (h1 : ∀ u ∈ news, u.oneCell' = true)
  (h63 : n + m ≤ maxLen) (hbb : bytes ≤ 4096) (hbytes : (n + m) * bytes ≤ 180000000000000)
  (h : ∀ v' w', (v' = .slice none 0 0 ↔ v = .slice none 0 0 ∧ m = 0) → Mm r S w0 w' (l.set i (.row v' (n + m) (xs ++ news) e size)) → K { a with tmps := a.tmps.setIfInBounds d v' } w') : oi.wp P a w K Q := by
 obtain ⟨v', w', hr, h2, h3, h4, h5⟩ := run_append_wide (P := P) (w := w) t oi.type e inf z size bytes ht hinf hz hsize hby hzs hsz v n xs (hm.row i hi) ad m c news hl hnews h1 h63 hbb hbytes
 have h6 : ∀ g, v'.ownBlock = some g → v.ownBlock = some g ∨ w.heap.size ≤ g := by
  intro g hg
  rcases h5 with h5 | h5
  ·exact .inl (by rw [← h5, hg])
  rw [hg, Option.some.injEq] at h5
  exact .inr (by omega)
 have := h v' w' h4 (hm.change i hi h3 (fun _ e => e) h2 h6)
 unfold Oper.wp execOp
 simp only [ho, resolve, invoke, builtin, Sem.run_bind, Sem.run_pure, Result.andThen_ok, List.map_toArray, List.map_cons, List.map_nil, hs, hx, hr]
 show K (a.put oi.dst _) _
 unfold Act.put
 rw [hd]
 exact this
end
def lone1 : TypeDesc → Bool
 | .struct _ => false
 | .array _ _ => false
 | _ => true
section
variable {P : Program} {o : Oper} {a : Act} {w : World} {x y : Operand} {T t e : TypeId} {g : Nat} {c : Array Value}
theorem r_load {i : Nat} {v : Value} {d : TypeDesc} (hb : Blk w g c t) (hv : c[i]? = some v) (hu : P.underlying T = some d) (hd : lone1 d = true) (ho : o.op = .load T x) (hx : a.eval x = .pointer (some ⟨g, i, none⟩)) :
  (execOp a.eval o).run P w = .ok (.value v) w := by
 have h1 := hb.cell i
 rw [hv] at h1
 have h2 : (isAgg T).run P w = .ok false w := by
  unfold isAgg
  rw [Sem.run_bind, run_underlying hu w]
  cases d <;> simp_all [lone1]
 unfold execOp
 simp only [ho, hx]
 generalize a.eval = g at *
 go_simp
theorem r_cellw {i : Nat} {v : Value} {d : TypeDesc} (h1 : w.cell? ⟨g, i, none⟩ = some v) (hu : P.underlying T = some d) (hd : lone1 d = true) (ho : o.op = .load T x) (hx : a.eval x = .pointer (some ⟨g, i, none⟩)) :
  (execOp a.eval o).run P w = .ok (.value v) w := by
 have h2 : (isAgg T).run P w = .ok false w := by
  unfold isAgg
  rw [Sem.run_bind, run_underlying hu w]
  cases d <;> simp_all [lone1]
 unfold execOp
 simp only [ho, hx]
 generalize a.eval = g at *
 go_simp
theorem r_partw {i : Nat} {cs : Array Value} {d : TypeDesc} (h1 : ∀ j v, cs[j]? = some v → w.cell? ⟨g, i + j, none⟩ = some v) (hu : P.underlying T = some d) (hd : lone1 d = false) (hz : (P.info? T).map (·.size) = some cs.size) (ho : o.op = .load T x) (hx : a.eval x = .pointer (some ⟨g, i, none⟩)) :
  (execOp a.eval o).run P w = .ok (.value (.agg cs)) w := by
 have hl : (loadCells ⟨g, i, none⟩ cs.toList.length).run P w = .ok cs.toList.toArray w :=
  run_loadCells_list (P := P) w ⟨g, i, none⟩ cs.toList (fun j v hv => by
   rw [add_lit]
   exact h1 j v (by simpa using hv))
 have hr : (loadVar T ⟨g, i, none⟩).run P w = .ok (.agg cs) w := by
  cases hq : P.info? T with
  | none => simp [hq] at hz
  | some inf =>
   have hs : inf.size = cs.size := by simpa [hq] using hz
   have hagg : (isAgg T).run P w = .ok true w := by
    unfold isAgg
    rw [Sem.run_bind, run_underlying hu w]
    cases d <;> simp_all [lone1]
   simp only [Array.length_toList, Array.toArray_toList] at hl
   simp [loadVar, Sem.run_bind, hagg, sizeOf, typeInfo, hq, hs, hl]
 unfold execOp
 simp only [ho, hx, Instr.loadAt, Instr.sureAddr, Sem.run_bind, Sem.run_pure, Result.andThen_ok, hr]
theorem r_agg {i : Nat} {cs : Array Value} {d : TypeDesc} (hb : Blk w g c t) (hc : ∀ j v, cs[j]? = some v → c[i + j]? = some v) (hu : P.underlying T = some d) (hd : lone1 d = false) (hz : (P.info? T).map (·.size) = some cs.size) (ho : o.op = .load T x) (hx : a.eval x = .pointer (some ⟨g, i, none⟩)) :
  (execOp a.eval o).run P w = .ok (.value (.agg cs)) w :=
 r_partw (fun j v hv => (hb.cell _).trans (hc j v hv)) hu hd hz ho hx
theorem r_whole {d : TypeDesc} (hb : Blk w g c t) (hu : P.underlying T = some d) (hd : lone1 d = false) (hz : (P.info? T).map (·.size) = some c.size) (ho : o.op = .load T x) (hx : a.eval x = .pointer (some ⟨g, 0, none⟩)) :
  (execOp a.eval o).run P w = .ok (.value (.agg c)) w :=
 r_agg hb (fun j v hv => by rw [Nat.zero_add]; exact hv) hu hd hz ho hx
def bv (b : UInt8) : Value := .int .u8 (b.toNat : Int)
theorem r_ixS {k : IntKind} (g o' i n c z : Nat) (hi : i < n) (hT : P.underlying T = some (.slice e)) (hz : (P.info? e).map (·.size) = some z) (ho : o.op = .indexAddr T x y)
  (hx : a.eval x = .slice (some ⟨g, o', none⟩) n c) (hy : a.eval y = .int k (i : Int)) : (execOp a.eval o).run P w = .ok (.value (.pointer (some ⟨g, o' + i * z, none⟩))) w := by
 have he : P.elem T = e := by unfold Program.elem; rw [hT]
 have h1 := run_indexAt_slice (P := P) w T ⟨g, o', none⟩ n c k (i : Int) (by rw [he]; exact hT)
 have h2 : (sizeOf e).run P w = .ok z w := by
  cases h : P.info? e with
  | none => rw [h] at hz; cases hz
  | some inf =>
   rw [h] at hz
   simp only [Option.map_some, Option.some.injEq] at hz
   simp [sizeOf, typeInfo, h, hz]
 rw [he, if_pos (by omega), h2] at h1
 unfold execOp
 simp only [ho, hx, hy]
 simp only [Sem.run_bind, h1]
 simp only [Result.andThen, Int.toNat_natCast, add_lit]
 rfl
end
end Go.Proofs.YtnmaaijeamlplaaDoor.Mem
