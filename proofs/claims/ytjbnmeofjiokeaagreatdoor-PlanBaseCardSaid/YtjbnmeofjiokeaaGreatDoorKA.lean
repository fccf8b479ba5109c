/- Numbers of words and of bytes: plain facts, no program. -/
import Derived.Lib.Strings
import Derived.Test.YtjbnmeofjiokeaaGreatDoorRows
import Derived.WalkKit
import Derived.ProofKit
import Derived.Lib.Hide
import Derived.IntWalk
import Derived.WalkSmall
import Derived.BigQuiet
import Derived.StillTailTactics
import Derived.Stop.BytesEq
import Derived.Deep.RegionHeld3
import Derived.Lib.EndianBits
import Derived.Laws.IdiomStrings
import Derived.Laws.MakeOwn
import Derived.Laws.AppendOwn
import Derived.Deep.Onto
import Derived.Deep.AppendLies
import Derived.Lib.AppendStr
import Derived.Laws.DeepStrings4
import Derived.Laws.Cover1
import Derived.Laws.BitsLemmas
import Derived.Lib.BufferRead
set_option linter.all false
namespace Go.Proofs.YtjbnmeofjiokeaaGreatDoor.Num

def up (f : Nat → Nat) (i x : Nat) : Nat → Nat := fun j => if j = i then x else f j
/-- What comes into word n of twice w; its words. -/
def dc (w : Nat → Nat) (c : Nat) : Nat → Nat
  | 0 => c
  | n + 1 => w n / 9223372036854775808
end Go.Proofs.YtjbnmeofjiokeaaGreatDoor.Num
namespace Go.Proofs.YtjbnmeofjiokeaaGreatDoor.Arr
open Go.RowKit
open Go.Proofs.YtjbnmeofjiokeaaGreatDoor.Num (up)

/-- The numbers f(0), f(1), .. up to n, as cells of kind k. -/
def rowOf (k : IntKind) (f : Nat → Nat) (n : Nat) : Array Value := ((List.range n).map fun j => Value.int k (f j : Int)).toArray
theorem rowOf_size (k : IntKind) (f : Nat → Nat) (n : Nat) : (rowOf k f n).size = n := by simp [rowOf]
theorem rowOf_get (k : IntKind) (f : Nat → Nat) (n j : Nat) (h : j < n) : (rowOf k f n)[j]? = some (.int k (f j : Int)) := by
  unfold rowOf
  rw [List.getElem?_toArray, List.getElem?_map, List.getElem?_range h]; rfl
theorem rowOf_one (k : IntKind) (f : Nat → Nat) (n : Nat) : (rowOf k f n).all (·.oneCell') = true := by
  rw [Array.all_eq_true_iff_forall_mem]
  intro x hx
  unfold rowOf at hx
  rw [List.mem_toArray, List.mem_map] at hx
  obtain ⟨_, _, rfl⟩ := hx
  rfl
theorem rowOf_congr {k : IntKind} {f g : Nat → Nat} {n : Nat} (h : ∀ j, j < n → f j = g j) : rowOf k f n = rowOf k g n := by
  unfold rowOf
  congr 1
  exact List.map_congr_left fun j hj => by rw [h j (List.mem_range.1 hj)]
theorem rowOf_set (k : IntKind) (f : Nat → Nat) (n i x : Nat) : (rowOf k f n).setIfInBounds i (.int k (x : Int)) = rowOf k (up f i x) n := by
  apply Array.ext
  · simp [rowOf_size]
  · intro j h1 h2
    rw [rowOf_size] at h2
    have e2 := rowOf_get k (up f i x) n j h2
    have e1 : ((rowOf k f n).setIfInBounds i (.int k (x : Int)))[j]? = some (.int k ((up f i x j : Nat) : Int)) := by
      rw [Array.getElem?_setIfInBounds, rowOf_size, rowOf_get k f n j h2]
      unfold up
      by_cases hij : i = j
      · subst hij; simp [h2]
      · rw [if_neg hij, if_neg (fun e => hij e.symm)]
    rw [← e1] at e2
    rw [Array.getElem?_eq_getElem h1, Array.getElem?_eq_getElem (by rw [rowOf_size]; exact h2)] at e2
    exact (Option.some.inj e2).symm
/-- Block B holds the n numbers f(0), f(1), .. -/
def Row (w : World) (B n T : Nat) (k : IntKind) (f : Nat → Nat) : Prop := w.heap[B]? = some (.cells (rowOf k f n) T (0, 0))
section
variable {w w' : World} {B n T : Nat} {k : IntKind} {f : Nat → Nat}
theorem Row.heap (h : Row w B n T k f) : w.heap[B]? = some (.cells (rowOf k f n) T (0, 0)) := h
theorem Row.at (h : Row w B n T k f) (j : Nat) (hj : j < n) : w.cell? ⟨B, j, none⟩ = some (.int k (f j : Int)) ∧ w.frozen? ⟨B, j, none⟩ = false :=
  ⟨by rw [cell_of_row w B j _ T (0, 0) h, rowOf_get k f n j hj], frozen_of_row w B j _ T h⟩
theorem Row.set (h : Row w B n T k f) (i x : Nat) : Row (w.setCell ⟨B, i, none⟩ (.int k (x : Int))) B n T k (up f i x) := by
  unfold Row
  rw [heap_setCell_same w B i _ T _ h, rowOf_set]
theorem Row.other (h : Row w B n T k f) (p : Addr) (v : Value) (hp : p.block ≠ B) : Row (w.setCell p v) B n T k f := by
  unfold Row
  rw [heap_setCell_other w p B v (fun e => hp e.symm)]; exact h
theorem Row.below {b : Nat} (h : Row w B n T k f) (hb : Below b w w') (hB : B < b) : Row w' B n T k f := by
  unfold Row
  rw [hb.block B hB]; exact h
theorem Row.drew (h : Row w B n T k f) : Row w.drew B n T k f := h
theorem Row.drewN (h : Row w B n T k f) (m : Nat) : Row (w.drewN m) B n T k f := h
theorem Row.lt (h : Row w B n T k f) : B < w.heap.size := (Array.getElem?_eq_some_iff.1 h).1
theorem Row.lit (w : World) (T n : Nat) (c : Array Value) (k : IntKind) (f : Nat → Nat) (hc : c = rowOf k f n) : Row (w.alloc (.cells c T)) w.heap.size n T k f := by
  unfold Row
  rw [heap_alloc_new w _, hc]
theorem Row.setRow {n' : Nat} {g : Nat → Nat} (h : Row w B n T k f) (hn : n = n') : Row (w.setRow B (rowOf k g n')) B n T k g := by
  subst hn
  exact setRow_heap w B _ _ T (0, 0) h
theorem Row.setRow_other {g : Nat} {cs : Array Value} (h : Row w B n T k f) (hg : B ≠ g) : Row (w.setRow g cs) B n T k f := by
  unfold Row
  rw [Go.setRow_other w g B cs hg]; exact h
theorem Row.congr {g : Nat → Nat} (h : Row w B n T k f) (hg : ∀ j, j < n → f j = g j) : Row w B n T k g := by
  unfold Row at h ⊢
  rw [h, rowOf_congr hg]
end
theorem below_setRow {b : Nat} {a w : World} {g : Nat} {cs : Array Value} (h : Below b a w) (hg : b ≤ g) : Below b a (w.setRow g cs) :=
  h.trans ⟨rfl, rfl, rfl, by simp, fun k hk => setRow_other w g k cs (by omega)⟩
end Go.Proofs.YtjbnmeofjiokeaaGreatDoor.Arr
namespace Go.Proofs.YtjbnmeofjiokeaaGreatDoor.Sym
open Go.RowKit
open Go.Proofs.YtjbnmeofjiokeaaGreatDoor.Arr (below_setRow)

/-- Block g holds the cells c. -/
def Blk (W : World) (g : Nat) (c : Array Value) (T : TypeId) : Prop := W.heap[g]? = some (.cells c T (0, 0))
section
variable {w W W' : World} {g g' : Nat} {c d : Array Value} {T : TypeId}
theorem Blk.lt (h : Blk W g c T) : g < W.heap.size := (Array.getElem?_eq_some_iff.1 h).1
theorem Blk.call (h : Blk W g c T) (hb : Below W.heap.size W W') : Blk W' g c T := by
  unfold Blk
  rw [hb.block _ h.lt]; exact h
theorem Blk.new (he : W' = W.alloc (.cells c T)) : Blk W' W.heap.size c T := by
  subst he; exact heap_alloc_new W _
theorem Blk.alloc {o : Obj} (h : Blk W g c T) (he : W' = W.alloc o) : Blk W' g c T := by
  subst he; exact h.call ((Below.refl _ _).alloc (Nat.le_refl _) _)
theorem Blk.set (h : Blk W g c T) (he : W' = W.setRow g d) : Blk W' g d T := by
  subst he; exact setRow_heap _ _ _ _ _ _ h
theorem Blk.other (h : Blk W g c T) (hg : g ≠ g') (he : W' = W.setRow g' d) : Blk W' g c T := by
  subst he; unfold Blk; rw [Go.setRow_other W g' g d hg]; exact h
theorem Blk.drew (h : Blk W g c T) : Blk W.drew g c T := h
theorem bel_call (h : Below w.heap.size w W) (hb : Below W.heap.size W W') : Below w.heap.size w W' := h.trans (hb.mono h.size)
end
section
variable {P : Program} {ops : Array Oper} {Q : Exit → Act → World → Prop} {md : Region.Mode} {S : World → Prop}
/-- Number i yields v in every world that S holds of: it is taken first. -/
theorem take_at {oi : Oper} {fuel : Nat} {listed : Array Bool} {a : Act} {w : World} (i : Nat) (d : Tmp) (v : Value) (hi : ops[i]? = some oi) (hd : oi.dst = some d)
    (hs : Region.noSelect ops = true) (hf : Region.free md ops listed i = true) (hr : (Region.ready md ops listed).contains i = true)
    (hQ : ∀ c a w, Q (.panic c) (a.put oi.dst v) w → Q (.panic c) a w) (hw : Region.wanted oi (yielded ops a.tmps) = true) (hy : ∀ w, S w → (execOp a.eval oi).run P w = .ok (.value v) w) (hS : S w)
    (h : wpAnyH P md ops Q S fuel (listed.setIfInBounds i true) { a with tmps := a.tmps.setIfInBounds d v } w) : wpAnyH P md ops Q S (fuel + 1) listed a w :=
  wpAnyH_take hi hs hf hr hQ (.inl ⟨hw, hy⟩) hS (by unfold Act.put; rw [hd]; exact h)
section
variable {oi : Oper} {a : Act} {w : World} {i : Nat} {K : Act → World → Prop}
theorem lst {rest : List Oper} (hw : Region.wanted oi (yielded ops a.tmps) = true) (h : oi.wp P a w (wpList P ops Q rest) Q) : wpList P ops Q (oi :: rest) a w := by
  unfold wpList
  rw [if_pos hw]
  exact .inl h
theorem w_value (d : Tmp) (v : Value) (hd : oi.dst = some d) (hrun : (execOp a.eval oi).run P w = .ok (.value v) w) (h : K { a with tmps := a.tmps.setIfInBounds d v } w) : oi.wp P a w K Q := by
  unfold Oper.wp
  rw [hrun]
  show K (a.put oi.dst v) w
  unfold Act.put
  rw [hd]
  exact h
theorem w_enter {f : FuncId} {args : Array Value} (d : Tmp) (v : Value) (hd : oi.dst = some d) (hrun : (execOp a.eval oi).run P w = .ok (.enter f args) w) (hc : Calls P f args w fun e w' => e = .returned v ∧ Below w.heap.size w w')
    (h : ∀ w', Below w.heap.size w w' → K { a with tmps := a.tmps.setIfInBounds d v } w') : oi.wp P a w K Q := by
  unfold Oper.wp
  rw [hrun]
  show Calls P f args w _
  refine hc.mono ?_
  rintro e w' ⟨rfl, hb⟩
  have := h w' hb
  show K (a.put oi.dst v) w'
  unfold Act.put
  rw [hd]
  exact this
end
end
theorem nz1 {α : Type} (l : List α) (i : Nat) (a : α) : l.toArray.setIfInBounds i a = (l.set i a).toArray := List.setIfInBounds_toArray _ _ _
theorem nz2 {α : Type} {a b : α} {l : List α} : (a :: l).set 0 b = b :: l := List.set_cons_zero
theorem nz3 {α : Type} {l : List α} {a b : α} {n : Nat} : (a :: l).set (n + 1) b = a :: l.set n b := List.set_cons_succ
section
variable {P : Program} {o : Oper} {a : Act} {w : World}
theorem run_mv {x : Operand} {v : Value} (ho : o.op = .move x) (hx : a.eval x = v) : (execOp a.eval o).run P w = .ok (.value v) w := by
  unfold execOp; simp only [ho, hx]; rfl
theorem run_as {x : Operand} {v : Value} (ho : o.op = .assign x) (hx : a.eval x = v) : (execOp a.eval o).run P w = .ok (.value v) w := by
  unfold execOp; simp only [ho, hx]; rfl
theorem run_ex {t : Operand} {k : Nat} {vs : Array Value} {v : Value} (ho : o.op = .extract t k) (ht : a.eval t = .tuple vs) (hv : vs[k]? = some v) : (execOp a.eval o).run P w = .ok (.value v) w := by
  unfold execOp; simp only [ho, ht]; simp [go_sem, hv]
theorem run_pick {c x y : Operand} {v : Value} (ho : o.op = .pick c x y) (hc : a.eval c = .bool true) (hx : a.eval x = v) : (execOp a.eval o).run P w = .ok (.value v) w := by
  unfold execOp; simp only [ho, hc, hx]; rfl
theorem run_pickf {c x y : Operand} {v : Value} (ho : o.op = .pick c x y) (hc : a.eval c = .bool false) (hx : a.eval y = v) : (execOp a.eval o).run P w = .ok (.value v) w := by
  unfold execOp; simp only [ho, hc, hx]; rfl
end
end Go.Proofs.YtjbnmeofjiokeaaGreatDoor.Sym
namespace Go.Proofs.YtjbnmeofjiokeaaGreatDoor.Sym
section
variable {P : Program} {ops : Array Oper} {Q : Exit → Act → World → Prop} {md : Region.Mode} {S : World → Prop} {oi : Oper} {a : Act} {w : World} {K : Act → World → Prop}
end
end Go.Proofs.YtjbnmeofjiokeaaGreatDoor.Sym
namespace Go.Proofs.YtjbnmeofjiokeaaGreatDoor.Sx
open Go.RowKit
open Go.Proofs.YtjbnmeofjiokeaaGreatDoor.Arr Go.Proofs.YtjbnmeofjiokeaaGreatDoor.Sym

/-! ### Numbers -/
/-! ### Memory -/
/-- Blocks made since w: where they are, what they hold. -/
structure Mm (w W : World) (l : List (Nat × Array Value × TypeId)) : Prop where
  blk : ∀ (i g : Nat) (c : Array Value) (T : TypeId), l[i]? = some (g, c, T) → Blk W g c T
  low : ∀ (i g : Nat) (c : Array Value) (T : TypeId), l[i]? = some (g, c, T) → w.heap.size ≤ g
  ne : ∀ (i j g : Nat) (c : Array Value) (T : TypeId) (g' : Nat) (c' : Array Value) (T' : TypeId), l[i]? = some (g, c, T) → l[j]? = some (g', c', T') → i ≠ j → g ≠ g'
  below : Below w.heap.size w W
section
variable {w W W' : World} {l : List (Nat × Array Value × TypeId)} {g : Nat} {c d : Array Value} {T : TypeId}
theorem Mm.nil (w : World) : Mm w w [] := ⟨fun i g c T h => by simp at h, fun i g c T h => by simp at h, fun i j g c T g' c' T' h => by simp at h, Below.refl _ _⟩
theorem Mm.at (h : Mm w W l) (i : Nat) (hi : l[i]? = some (g, c, T)) : Blk W g c T := h.blk i g c T hi
theorem Mm.call (h : Mm w W l) (hb : Below W.heap.size W W') : Mm w W' l :=
  ⟨fun i g c T hi => (h.blk i g c T hi).call hb, h.low, h.ne, bel_call h.below hb⟩
theorem Mm.drew (h : Mm w W l) : Mm w W.drew l := ⟨fun i g c T hi => (h.blk i g c T hi).drew, h.low, h.ne, h.below.drew⟩
theorem Mm.alloc (h : Mm w W l) (c : Array Value) (T : TypeId) : Mm w (W.alloc (.cells c T)) (l ++ [(W.heap.size, c, T)]) := by
  have key : ∀ i g' c' T', (l ++ [(W.heap.size, c, T)])[i]? = some (g', c', T') → (i < l.length ∧ l[i]? = some (g', c', T')) ∨ (i = l.length ∧ g' = W.heap.size ∧ c' = c ∧ T' = T) := by
    intro i g' c' T' hi
    by_cases hl : i < l.length
    · rw [List.getElem?_append_left hl] at hi; exact .inl ⟨hl, hi⟩
    · rw [List.getElem?_append_right (by omega)] at hi
      cases hk : i - l.length with
      | zero => rw [hk] at hi; simp at hi; exact .inr ⟨by omega, hi.1.symm, hi.2.1.symm, hi.2.2.symm⟩
      | succ k => rw [hk] at hi; simp at hi
  refine ⟨fun i g' c' T' hi => ?_, fun i g' c' T' hi => ?_, fun i j g' c' T' g2 c2 T2 hi hj hij => ?_, h.below.alloc h.below.size _⟩
  · rcases key _ _ _ _ hi with ⟨_, h1⟩ | ⟨_, rfl, rfl, rfl⟩
    · exact (h.blk _ _ _ _ h1).alloc rfl
    · exact Blk.new rfl
  · rcases key _ _ _ _ hi with ⟨_, h1⟩ | ⟨_, rfl, rfl, rfl⟩
    · exact h.low _ _ _ _ h1
    · exact h.below.size
  · rcases key _ _ _ _ hi with ⟨_, h1⟩ | ⟨e1, rfl, rfl, rfl⟩
    · rcases key _ _ _ _ hj with ⟨_, h2⟩ | ⟨_, rfl, rfl, rfl⟩
      · exact h.ne _ _ _ _ _ _ _ _ h1 h2 hij
      · exact Nat.ne_of_lt (h.blk _ _ _ _ h1).lt
    · rcases key _ _ _ _ hj with ⟨_, h2⟩ | ⟨e2, rfl, rfl, rfl⟩
      · exact (Nat.ne_of_lt (h.blk _ _ _ _ h2).lt).symm
      · omega
theorem Mm.set (h : Mm w W l) (i : Nat) (hi : l[i]? = some (g, c, T)) (d : Array Value) : Mm w (W.setRow g d) (l.set i (g, d, T)) := by
  have hl : i < l.length := (List.getElem?_eq_some_iff.1 hi).1
  have key : ∀ j g' c' T', (l.set i (g, d, T))[j]? = some (g', c', T') → (j = i ∧ g' = g ∧ c' = d ∧ T' = T) ∨ (j ≠ i ∧ l[j]? = some (g', c', T')) := by
    intro j g' c' T' hj
    by_cases e : j = i
    · subst e; rw [List.getElem?_set_self hl] at hj; simp at hj; exact .inl ⟨rfl, hj.1.symm, hj.2.1.symm, hj.2.2.symm⟩
    · rw [List.getElem?_set_ne (fun e' => e e'.symm)] at hj; exact .inr ⟨e, hj⟩
  refine ⟨fun j g' c' T' hj => ?_, fun j g' c' T' hj => ?_, fun j m g' c' T' g2 c2 T2 hj hm hjm => ?_, below_setRow h.below (h.low _ _ _ _ hi)⟩
  · rcases key _ _ _ _ hj with ⟨_, rfl, rfl, rfl⟩ | ⟨e, h1⟩
    · exact (h.blk _ _ _ _ hi).set rfl
    · exact (h.blk _ _ _ _ h1).other (h.ne _ _ _ _ _ _ _ _ h1 hi e) rfl
  · rcases key _ _ _ _ hj with ⟨_, rfl, rfl, rfl⟩ | ⟨e, h1⟩
    · exact h.low _ _ _ _ hi
    · exact h.low _ _ _ _ h1
  · rcases key _ _ _ _ hj with ⟨e1, rfl, rfl, rfl⟩ | ⟨e, h1⟩
    · rcases key _ _ _ _ hm with ⟨e2, rfl, rfl, rfl⟩ | ⟨e2, h2⟩
      · omega
      · exact h.ne _ _ _ _ _ _ _ _ hi h2 (fun e' => e2 e'.symm)
    · rcases key _ _ _ _ hm with ⟨e2, rfl, rfl, rfl⟩ | ⟨e2, h2⟩
      · exact h.ne _ _ _ _ _ _ _ _ h1 hi e
      · exact h.ne _ _ _ _ _ _ _ _ h1 h2 hjm
/-- One cell is written. -/
theorem Mm.put (h : Mm w W l) (i : Nat) (hi : l[i]? = some (g, c, T)) (j : Nat) (v : Value) (hd : c.setIfInBounds j v = d) : Mm w (W.setCell ⟨g, j, none⟩ v) (l.set i (g, d, T)) := by
  have e : W.setCell ⟨g, j, none⟩ v = W.setRow g (c.setIfInBounds j v) := setCell_eq_setRow W g j c T (0, 0) v (h.blk _ _ _ _ hi)
  rw [e, hd]
  exact h.set i hi d
end

/-! ### Flow -/
section
variable {P : Program} {Q : Exit → Act → World → Prop} {K : Act → World → Prop} {a : Act} {w : World} {id id' : Nat}
theorem then_n (h : K a w) : Exit.then K Q .normal a w := h
/-- A mark of progress may be chosen beside the frame. -/
theorem wp_loop_n {c : Code} (I : Nat → Act → World → Prop) {n : Nat} (h₀ : I n a w)
    (round : ∀ n a w, I n a w → ∀ R : Act → World → Prop, (∀ m a' w', I m a' w' → m < n → R a' w') → c.wp P (Exit.then R Q) a w) : (Code.loop c).wp P Q a w := by
  intro b k cs
  have key : ∀ n a w, I n a w →
      ∃ e a' w', Q e a' w' ∧ Arrives P (lone (b.at a (.code c :: .inLoop c :: k)) cs w) b k cs e a' w' := by
    intro n
    induction n using Nat.strongRecOn with
    | _ n ih =>
      intro a w hI
      obtain ⟨e, a₁, w₁, hq, harr⟩ := round n a w hI (fun a' w' => ∃ m, m < n ∧ I m a' w') (fun m a' w' h1 h2 => ⟨m, h2, h1⟩) b (.inLoop c :: k) cs
      cases e with
      | normal =>
        obtain ⟨m, hlt, hI₁⟩ := hq
        obtain ⟨e₂, a₂, w₂, hq₂, harr₂⟩ := ih m hlt a₁ w₁ hI₁
        exact ⟨e₂, a₂, w₂, hq₂, .of_steps (Steps.trans harr (.one step_inLoop)) harr₂⟩
      | exit id => exact ⟨_, a₁, w₁, hq, .pass (x := .inLoop c) rfl (fun _ _ => .inl (by simp)) harr⟩
      | goto l => exact ⟨_, a₁, w₁, hq, .pass (x := .inLoop c) rfl (fun _ _ => .inl (by simp)) harr⟩
      | ret => exact ⟨_, a₁, w₁, hq, .pass (x := .inLoop c) rfl (fun _ _ => .inl (by simp)) harr⟩
      | panic ch => exact ⟨_, a₁, w₁, hq, .pass (x := .inLoop c) rfl (fun _ _ => .inl (by simp)) harr⟩
      | outgrown => exact ⟨_, a₁, w₁, hq, .pass (x := .inLoop c) rfl (fun _ _ => .inl (by simp)) harr⟩
  obtain ⟨e, a', w', hq, harr⟩ := key n a w h₀
  exact ⟨e, a', w', hq, .of_steps (.one step_loop) harr⟩
end

/-! ### More that may come up -/
section
variable {P : Program} {ops : Array Oper} {Q : Exit → Act → World → Prop} {md : Region.Mode} {S : World → Prop}
end

/-! ### What a function hands back -/
section
variable {P : Program} {fn : Func} {p q : Tmp} {ty ty' : TypeId} {tmps : Array Value} {w : World} {g g' : Nat} {t t' : TypeId} {cs cs' : Array Value} {d d' : TypeDesc} {v v' : Value}
theorem res_t (h : fn.results = #[.tmp p]) (hp : tmps.getD p undef = v) : (results fn tmps).run P w = .ok v w := by
  have hp' : tmps[p]?.getD undef = v := by simpa using hp
  simp [results, h, hp']
end

/-! ### Operations that change memory -/
section
variable {P : Program} {Q : Exit → Act → World → Prop} {K : Act → World → Prop} {oi : Oper} {a : Act} {w0 w : World} {l : List (Nat × Array Value × TypeId)}
theorem m_alloc {c : Array Value} {T : TypeId} (hm : Mm w0 w l) (d : Tmp) (hd : oi.dst = some d) (hrun : (execOp a.eval oi).run P w = .ok (.value (.pointer (some ⟨w.heap.size, 0, none⟩))) (w.alloc (.cells c T)))
    (h : ∀ g w', Mm w0 w' (l ++ [(g, c, T)]) → K { a with tmps := a.tmps.setIfInBounds d (.pointer (some ⟨g, 0, none⟩)) } w') : oi.wp P a w K Q := by
  unfold Oper.wp
  rw [hrun]
  have := h _ _ (hm.alloc c T)
  show K (a.put oi.dst _) _
  unfold Act.put
  rw [hd]
  exact this
theorem m_store (i : Nat) (ty : TypeId) (x y : Operand) {g : Nat} (cells : Array Value) {T : TypeId} {old : Array Value} (hm : Mm w0 w l) (hi : l[i]? = some (g, old, T)) (hd : oi.dst = none)
    (ho : oi.op = .store ty x y) (hx : a.eval x = .pointer (some ⟨g, 0, none⟩)) (hy : a.eval y = .agg cells) (hz : (P.info? ty).map (·.size) = some cells.size)
    (hold : old.size = cells.size) (h1 : cells.all (·.oneCell') = true) (h : ∀ w', Mm w0 w' (l.set i (g, cells, T)) → K a w') : oi.wp P a w K Q :=
  wp_store_row ty x y ho g cells hx hy T old (hm.at i hi) hz hold h1 (by unfold Act.put; rw [hd]; exact h _ (hm.set i hi cells))
theorem m_put (i : Nat) {g : Nat} (j : Nat) (v : Value) {T : TypeId} {old new : Array Value} (hm : Mm w0 w l) (hi : l[i]? = some (g, old, T)) (hd : oi.dst = none)
    (hrun : (execOp a.eval oi).run P w = .ok .skip (w.setCell ⟨g, j, none⟩ v)) (hnew : old.setIfInBounds j v = new) (h : ∀ w', Mm w0 w' (l.set i (g, new, T)) → K a w') : oi.wp P a w K Q := by
  unfold Oper.wp
  rw [hrun]
  have := h _ (hm.put i hi j v hnew)
  show K (a.put oi.dst _) _
  unfold Act.put
  rw [hd]
  exact this
theorem m_call {f : FuncId} {args : Array Value} (hm : Mm w0 w l) (d : Tmp) (v : Value) (hd : oi.dst = some d) (hrun : (execOp a.eval oi).run P w = .ok (.enter f args) w) (hc : Calls P f args w fun e w' => e = .returned v ∧ Below w.heap.size w w')
    (h : ∀ w', Mm w0 w' l → K { a with tmps := a.tmps.setIfInBounds d v } w') : oi.wp P a w K Q :=
  w_enter d v hd hrun hc fun w' hb => h w' (hm.call hb)
/-- A call of whose result something is known. -/
theorem m_callx {f : FuncId} {args : Array Value} {R : Value → Prop} (hm : Mm w0 w l) (d : Tmp) (hd : oi.dst = some d) (hrun : (execOp a.eval oi).run P w = .ok (.enter f args) w) (hc : Calls P f args w fun e w' => (∃ v, e = .returned v ∧ R v) ∧ Below w.heap.size w w')
    (h : ∀ v w', R v → Mm w0 w' l → K { a with tmps := a.tmps.setIfInBounds d v } w') : oi.wp P a w K Q := by
  unfold Oper.wp
  rw [hrun]
  show Calls P f args w _
  refine hc.mono ?_
  rintro e w' ⟨⟨v, rfl, hv⟩, hb⟩
  have := h v w' hv (hm.call hb)
  show K (a.put oi.dst v) w'
  unfold Act.put
  rw [hd]
  exact this
end

/-! ### Operations that yield a value -/
section
variable {P : Program} {o : Oper} {a : Act} {w : World} {x y : Operand} {T T' : TypeId} {k yk : IntKind}
theorem size_run {e : TypeId} (hz : (P.info? e).map (·.size) = some 1) (w : World) : (sizeOf e).run P w = .ok 1 w := by
  cases h : P.info? e with
  | none => rw [h] at hz; cases hz
  | some i =>
    rw [h] at hz; simp at hz
    have e1 : (typeInfo e).run P w = .ok i w := by simp [typeInfo, h]
    simp [sizeOf, e1, hz]
theorem r_len {s : ByteArray} (ho : o.op = .call { callee := .builtin .len, args := #[x], argTypes := #[T] }) (hT : P.underlying T = some .string) (hx : a.eval x = .string s) : (execOp a.eval o).run P w = .ok (.value (.int .i64 (s.size : Int))) w := by
  unfold execOp
  simp only [ho]
  generalize a.eval = f at *
  go_simp
theorem r_char {s : ByteArray} (i n : Nat) (hi : i < s.size) (hn : (s[i]'hi).toNat = n) (hT : P.underlying T = some .string) (ho : o.op = .index T x y) (hx : a.eval x = .string s) (hy : a.eval y = .int k (i : Int)) :
    (execOp a.eval o).run P w = .ok (.value (.int .u8 (n : Int))) w := by
  have h1 := run_index_string (P := P) w T s k (i : Int) hT
  rw [dif_pos (by omega)] at h1
  unfold execOp
  simp only [ho, hx, hy]
  simp only [Sem.run_bind, h1]
  subst hn
  simp [Result.andThen]
end
end Go.Proofs.YtjbnmeofjiokeaaGreatDoor.Sx
namespace Go.Proofs.YtjbnmeofjiokeaaGreatDoor.Sx
open Go.RowKit
open Go.Proofs.YtjbnmeofjiokeaaGreatDoor.Arr Go.Proofs.YtjbnmeofjiokeaaGreatDoor.Sym

/-- A text of n bytes. -/
def txt (f : Nat → Nat) (n : Nat) : ByteArray := ⟨((List.range n).map fun j => UInt8.ofNat (f j)).toArray⟩
section
variable {P : Program} {o : Oper} {a : Act} {w : World} {x y : Operand} {T T' e : TypeId}
theorem r_string (g n c : Nat) (f : Nat → Nat) (t : TypeId) (hf : ∀ j, j < n → f j < 256) (hb : Blk w g (rowOf .u8 f n) t) (hs : P.underlying T = some (.slice e)) (he : P.underlying e = some (.int .u8)) (hd : P.underlying T' = some .string)
    (ho : o.op = .convert T T' x) (hx : a.eval x = .slice (some ⟨g, 0, none⟩) n c) : (execOp a.eval o).run P w = .ok (.value (.string (txt f n))) w := by
  have h1 := run_convert_bytes_back (P := P) w T T' e ⟨g, 0, none⟩ c ((List.range n).map fun j => UInt8.ofNat (f j)) hs he hd (fun j hj => by
    have hj' : j < n := by simpa using hj
    have h2 := ((show Row w g n t .u8 f from hb).at j hj').1
    have e1 : (⟨g, 0, none⟩ : Addr).add j = ⟨g, j, none⟩ := by unfold Addr.add; split <;> simp_all
    rw [e1, h2]
    have := hf j hj'
    simp; omega)
  rw [List.length_map, List.length_range] at h1
  unfold execOp
  simp only [ho, hx]
  simp only [Sem.run_bind, h1]
  rfl
theorem r_cat (s t : ByteArray) (hst : s.size + t.size ≤ 9223372036854775807) (ho : o.op = .binOp .add T x y T') (hx : a.eval x = .string s) (hy : a.eval y = .string t) : (execOp a.eval o).run P w = .ok (.value (.string (s ++ t))) w := by
  unfold execOp
  simp only [ho, hx, hy]
  generalize a.eval = f at *
  go_simp
/-- A slice that is made: so many zero bytes. -/
theorem m_make {Q : Exit → Act → World → Prop} {K : Act → World → Prop} {w0 : World} {l : List (Nat × Array Value × TypeId)} {c : Array Value} (v : Nat → Value) (hm : Mm w0 w l) (d : Tmp) (hd : o.dst = some d) (hrun : (execOp a.eval o).run P w = .ok (.value (v w.heap.size)) (w.alloc (.cells c T)))
    (h : ∀ g w', Mm w0 w' (l ++ [(g, c, T)]) → K { a with tmps := a.tmps.setIfInBounds d (v g) } w') : o.wp P a w K Q := by
  unfold Oper.wp
  rw [hrun]
  have := h _ _ (hm.alloc c T)
  show K (a.put o.dst _) _
  unfold Act.put
  rw [hd]
  exact this
end
end Go.Proofs.YtjbnmeofjiokeaaGreatDoor.Sx
namespace Go.Proofs.YtjbnmeofjiokeaaGreatDoor.Sx
open Go.RowKit
open Go.Proofs.YtjbnmeofjiokeaaGreatDoor.Num (up)
open Go.Proofs.YtjbnmeofjiokeaaGreatDoor.Arr Go.Proofs.YtjbnmeofjiokeaaGreatDoor.Sym

section
variable {P : Program} {o : Oper} {a : Act} {w : World} {x y : Operand} {T T' e : TypeId} {k : IntKind}
theorem r_lenS {ao : Option Addr} {n c : Nat} (ho : o.op = .call { callee := .builtin .len, args := #[x], argTypes := #[T] }) (hT : P.underlying T = some (.slice e)) (hx : a.eval x = .slice ao n c) : (execOp a.eval o).run P w = .ok (.value (.int .i64 (n : Int))) w := by
  have he : P.elem T = e := by unfold Program.elem; rw [hT]
  have hT' : P.underlying T = some (.slice (P.elem T)) := by rw [he]; exact hT
  unfold execOp
  simp only [ho]
  generalize a.eval = f at *
  go_simp
theorem r_ixS (g i n c : Nat) (hi : i < n) (hT : P.underlying T = some (.slice e)) (hz : (P.info? e).map (·.size) = some 1) (ho : o.op = .indexAddr T x y)
    (hx : a.eval x = .slice (some ⟨g, 0, none⟩) n c) (hy : a.eval y = .int k (i : Int)) : (execOp a.eval o).run P w = .ok (.value (.pointer (some ⟨g, i, none⟩))) w := by
  have he : P.elem T = e := by unfold Program.elem; rw [hT]
  have h1 := run_indexAt_slice (P := P) w T ⟨g, 0, none⟩ n c k (i : Int) (by rw [he]; exact hT)
  rw [he, if_pos (by omega), size_run hz] at h1
  unfold execOp
  simp only [ho, hx, hy]
  simp only [Sem.run_bind, h1]
  by_cases h0 : i = 0
  · subst h0; rfl
  · simp [Result.andThen, Addr.add, h0]
theorem append_row (f : Nat → Nat) (n c z : Nat) (hn : n < c) : ((rowOf .u8 f c).toList.take n ++ [Value.int .u8 (z : Int)] ++ (rowOf .u8 f c).toList.drop (n + 1)).toArray = rowOf .u8 (up f n z) c := by
  have hl : (rowOf .u8 f c).toList.length = c := by rw [Array.length_toList, rowOf_size]
  apply Array.ext_getElem?
  intro j
  rw [List.getElem?_toArray]
  have hg : ∀ (h : Nat → Nat) (j : Nat), (rowOf .u8 h c)[j]? = if j < c then some (.int .u8 (h j : Int)) else none := by
    intro h j
    by_cases hj : j < c
    · rw [if_pos hj, rowOf_get .u8 h c j hj]
    · rw [if_neg hj, Array.getElem?_eq_none (by rw [rowOf_size]; omega)]
  rw [hg (up f n z) j, List.append_assoc, List.getElem?_append]
  have ht : ((rowOf .u8 f c).toList.take n).length = n := by rw [List.length_take, hl]; omega
  rw [ht]
  by_cases h1 : j < n
  · rw [if_pos h1, List.getElem?_take_of_lt h1, Array.getElem?_toList, hg, if_pos (by omega), if_pos (by omega)]
    unfold up; rw [if_neg (by omega)]
  · rw [if_neg h1]
    by_cases h2 : j = n
    · subst h2
      rw [Nat.sub_self, if_pos hn]
      unfold up; rw [if_pos rfl]; rfl
    · obtain ⟨q, hq⟩ : ∃ q, j - n = q + 1 := ⟨j - n - 1, by omega⟩
      rw [hq, List.singleton_append, List.getElem?_cons_succ, List.getElem?_drop, Array.getElem?_toList, show n + 1 + q = j by omega, hg]
      unfold up; rw [if_neg h2]
/-- One byte more, within the room. -/
theorem m_append {Q : Exit → Act → World → Prop} {K : Act → World → Prop} {w0 : World} {l : List (Nat × Array Value × TypeId)} (j j2 : Nat) {g g2 n c z : Nat} {f f2 : Nat → Nat} {t2 : TypeId} (i : TypeInfo) (hm : Mm w0 w l) (hj : l[j]? = some (g, rowOf .u8 f c, e)) (hj2 : l[j2]? = some (g2, rowOf .u8 f2 1, t2)) (hz : f2 0 = z) (hn : n < c)
    (hT : P.underlying T = some (.slice e)) (hi : P.info? e = some i) (h1 : i.size = 1) (d : Tmp) (hd : o.dst = some d) (ho : o.op = .call { callee := .builtin .append, args := #[x, y], argTypes := #[T, T] })
    (hx : a.eval x = .slice (some ⟨g, 0, none⟩) n c) (hy : a.eval y = .slice (some ⟨g2, 0, none⟩) 1 1)
    (h : ∀ w', Mm w0 w' (l.set j (g, rowOf .u8 (up f n z) c, e)) → K { a with tmps := a.tmps.setIfInBounds d (.slice (some ⟨g, 0, none⟩) (n + 1) c) } w') : o.wp P a w K Q := by
  have hb := hm.at j hj
  have hb2 := hm.at j2 hj2
  have hr := run_append_room (P := P) w T o.type e i hT hi g n c (rowOf .u8 f c) hb ⟨g2, 0, none⟩ 1 1 [.int .u8 (z : Int)] (by rw [h1]; rfl) (fun q u hu => by
    cases q with
    | zero =>
      have := ((show Row w g2 1 t2 .u8 f2 from hb2).at 0 (by decide)).1
      rw [hz] at this
      simp at hu
      rw [← hu]; exact this
    | succ q => simp at hu) (by simp [Value.oneCell']) (by omega) (by rw [h1, rowOf_size]; simp; omega)
  rw [h1, Nat.mul_one, List.length_singleton, append_row f n c z hn] at hr
  have := h _ (hm.set j hj _)
  have hrun : (execOp a.eval o).run P w = .ok (.value (.slice (some ⟨g, 0, none⟩) (n + 1) c)) (w.setRow g (rowOf .u8 (up f n z) c)) := by
    simp [execOp, ho, resolve, invoke, builtin, hx, hy, hr, Result.andThen]
  unfold Oper.wp
  rw [hrun]
  show K (a.put o.dst _) _
  unfold Act.put
  rw [hd]
  exact this
end
end Go.Proofs.YtjbnmeofjiokeaaGreatDoor.Sx
namespace Go.Proofs.YtjbnmeofjiokeaaGreatDoor.Mem
open Go.RowKit

/-! ### One block -/
/-- No cell is frozen. -/
def NF (n : Nat) (fz : Nat × Nat) : Prop := fz.2 ≤ fz.1 ∨ n ≤ fz.1
/-- Block g holds the cells c, and may be written. -/
def Blk (W : World) (g : Nat) (c : Array Value) (T : TypeId) : Prop := ∃ fz, W.heap[g]? = some (.cells c T fz) ∧ NF c.size fz
section
variable {w W W' : World} {g g' : Nat} {c d : Array Value} {T : TypeId}
theorem Blk.lt (h : Blk W g c T) : g < W.heap.size := by obtain ⟨_, h, _⟩ := h; exact (Array.getElem?_eq_some_iff.1 h).1
theorem Blk.of_heap (h : Blk W g c T) (e : W'.heap[g]? = W.heap[g]?) : Blk W' g c T := by obtain ⟨fz, h, hn⟩ := h; exact ⟨fz, e.trans h, hn⟩
theorem Blk.call (h : Blk W g c T) (hb : Below W.heap.size W W') : Blk W' g c T := h.of_heap (hb.block _ h.lt)
theorem Blk.new (W : World) (c : Array Value) (T : TypeId) : Blk (W.alloc (.cells c T)) W.heap.size c T := ⟨(0, 0), heap_alloc_new W _, .inl (Nat.le_refl _)⟩
theorem Blk.set (h : Blk W g c T) (hd : d.size = c.size) : Blk (W.setRow g d) g d T := by
  obtain ⟨fz, h, hn⟩ := h
  exact ⟨fz, setRow_heap _ _ _ _ _ _ h, by rw [NF, hd]; exact hn⟩
theorem Blk.other (h : Blk W g c T) (hg : g ≠ g') : Blk (W.setRow g' d) g c T := h.of_heap (Go.setRow_other W g' g d hg)
theorem Blk.drew (h : Blk W g c T) : Blk W.drew g c T := h
theorem Blk.cell (h : Blk W g c T) (j : Nat) : W.cell? ⟨g, j, none⟩ = c[j]? := by obtain ⟨fz, h, _⟩ := h; exact cell_of_row W g j c T fz h
theorem Blk.frozen (h : Blk W g c T) (j : Nat) (hj : j < c.size) : W.frozen? ⟨g, j, none⟩ = false := by
  obtain ⟨⟨lo, hi⟩, h, hn⟩ := h
  unfold World.frozen?
  simp only [h]
  simp only [NF] at hn
  simp only [Bool.and_eq_false_iff, decide_eq_false_iff_not]
  omega
theorem Blk.setCell (h : Blk W g c T) (j : Nat) (v : Value) : W.setCell ⟨g, j, none⟩ v = W.setRow g (c.setIfInBounds j v) := by
  obtain ⟨fz, h, _⟩ := h
  exact setCell_eq_setRow W g j c T fz v h
end
theorem add_lit (g o i : Nat) : (⟨g, o, none⟩ : Addr).add i = ⟨g, o + i, none⟩ := by unfold Addr.add; split <;> simp_all

/-! ### What a call has made, was handed to write, or reads -/
/-- R holds, and goes on to hold as long as the blocks F stay as they are. -/
def Seal (R : World → Prop) (F : Nat → Prop) (W : World) : Prop :=
  (∀ g, F g → g < W.heap.size) ∧ R W ∧ ∀ W' : World, (∀ g, F g → W'.heap[g]? = W.heap[g]?) → R W'
/-- Behind w: R, out of new blocks and those of S. -/
def Gives (w W : World) (S : Nat → Prop) (R : World → Prop) : Prop := ∃ F, Seal R F W ∧ ∀ g, F g → w.heap.size ≤ g ∨ S g
section
variable {w W W' : World} {R R' : World → Prop} {F F' S S' : Nat → Prop}
theorem Seal.out (h : Seal R F W) : R W := h.2.1
theorem Seal.keep (h : Seal R F W) (hW : ∀ g, F g → W'.heap[g]? = W.heap[g]?) : Seal R F W' := by
  refine ⟨fun g hg => ?_, h.2.2 W' hW, fun W2 h2 => h.2.2 W2 fun g hg => (h2 g hg).trans (hW g hg)⟩
  have h1 := h.1 g hg
  have h2 := hW g hg
  rw [Array.getElem?_eq_getElem h1] at h2
  exact (Array.getElem?_eq_some_iff.1 h2).1
theorem Seal.below (h : Seal R F W) (hb : Below W.heap.size W W') : Seal R F W' := h.keep fun g hg => hb.block g (h.1 g hg)
theorem Seal.mono (h : Seal R F W) (f : ∀ W, R W → R' W) : Seal R' F W := ⟨h.1, f _ h.2.1, fun W' h' => f _ (h.2.2 W' h')⟩
theorem Seal.and (h : Seal R F W) (k : Seal R' F' W) : Seal (fun W => R W ∧ R' W) (fun g => F g ∨ F' g) W :=
  ⟨fun g hg => hg.elim (h.1 g) (k.1 g), ⟨h.2.1, k.2.1⟩, fun W' hW => ⟨h.2.2 W' fun g hg => hW g (.inl hg), k.2.2 W' fun g hg => hW g (.inr hg)⟩⟩
theorem Seal.pure {p : Prop} (h : p) : Seal (fun _ => p) (fun _ => False) W := ⟨fun _ h => h.elim, h, fun _ _ => h⟩
theorem Gives.and (h : Gives w W S R) (k : Gives w W S R') : Gives w W S (fun W => R W ∧ R' W) := by
  obtain ⟨F, h1, h2⟩ := h
  obtain ⟨F', k1, k2⟩ := k
  exact ⟨_, h1.and k1, fun g hg => hg.elim (h2 g) (k2 g)⟩
theorem Gives.mono (h : Gives w W S R) (f : ∀ W, R W → R' W) : Gives w W S R' := by
  obtain ⟨F, h1, h2⟩ := h
  exact ⟨F, h1.mono f, h2⟩
theorem Gives.out (h : Gives w W S R) : R W := by obtain ⟨F, h1, _⟩ := h; exact h1.out
theorem Gives.pure {p : Prop} (h : p) : Gives w W S (fun _ => p) := ⟨_, Seal.pure h, fun _ h => h.elim⟩
theorem Gives.wide (h : Gives w W S R) (f : ∀ g, S g → S' g) : Gives w W S' R := by
  obtain ⟨F, h1, h2⟩ := h
  exact ⟨F, h1, fun g hg => (h2 g hg).imp id (f g)⟩
theorem Gives.below (h : Gives w W S R) (hb : Below W.heap.size W W') : Gives w W' S R := by
  obtain ⟨F, h1, h2⟩ := h
  exact ⟨F, h1.below hb, h2⟩
end
inductive Ent where
  | blk (g : Nat) (c : Array Value) (T : TypeId)
  | row (v : Value) (n : Nat) (xs : List Value) (e : TypeId) (size : Nat)
  | see (R : World → Prop) (F : Nat → Prop)
  | fam (vs : List Value) (ls : List (List Value)) (e : TypeId)
  | itr (g : Nat) (s : ByteArray) (pos : Nat)
/-- The blocks that are the call's own to write. -/
def Ent.own : Ent → Nat → Prop
  | .blk g _ _, g' => g = g'
  | .row v _ _ _ _, g' => v.ownBlock = some g'
  | .see _ _, _ => False
  | .fam vs _ _, g' => ∃ (k : Nat) (v : Value), vs[k]? = some v ∧ v.ownBlock = some g'
  | .itr g _ _, g' => g = g'
/-- The blocks that it speaks of. -/
def Ent.uses (x : Ent) (g : Nat) : Prop := match x with
  | .see _ F => F g
  | x => x.own g
def Ent.plain : Ent → Bool
  | .see _ _ => false
  | _ => true
/-- Rows of one cell an element, no two in one block. -/
def Fam (W : World) (vs : List Value) (ls : List (List Value)) (e : TypeId) : Prop :=
  vs.length = ls.length ∧ (∀ (k : Nat) (v : Value) (l : List Value), vs[k]? = some v → ls[k]? = some l → W.ownsRow 0 e 1 v l.length l) ∧
    ∀ (i j : Nat) (v v' : Value) (g : Nat), i ≠ j → vs[i]? = some v → vs[j]? = some v' → v.ownBlock = some g → v'.ownBlock ≠ some g
def Ent.ok (W : World) : Ent → Prop
  | .blk g c T => Blk W g c T
  | .row v n xs e size => W.ownsRow 0 e size v n xs
  | .see R F => Seal R F W
  | .fam vs ls e => Fam W vs ls e
  | .itr g s pos => W.heap[g]? = some (.stringIter s pos)
theorem Ent.own_uses {x : Ent} {g : Nat} (h : x.own g) : x.uses g := by
  cases x <;> first | exact h | exact h.elim
theorem row_kept {W W' : World} {e : TypeId} {size : Nat} {v : Value} {n : Nat} {xs : List Value} (h : W.ownsRow 0 e size v n xs) (hg : ∀ g, v.ownBlock = some g → W'.heap[g]? = W.heap[g]?) : W'.ownsRow 0 e size v n xs := by
  refine ⟨h.1, ?_⟩
  rcases h.2 with hn | ⟨g, cap, cur, rfl, hb, hgg, rest⟩
  · exact .inl hn
  · exact .inr ⟨g, cap, cur, rfl, hb, (hg g rfl).trans hgg, rest⟩
theorem Fam.at {W : World} {vs : List Value} {ls : List (List Value)} {e : TypeId} (h : Fam W vs ls e) {k : Nat} {v : Value} (hv : vs[k]? = some v) : ∃ l, ls[k]? = some l ∧ W.ownsRow 0 e 1 v l.length l := by
  have hk : k < ls.length := by rw [← h.1]; exact (List.getElem?_eq_some_iff.1 hv).1
  exact ⟨_, List.getElem?_eq_getElem hk, h.2.1 k v _ hv (List.getElem?_eq_getElem hk)⟩
section
variable {w W W' : World} {x : Ent} {r : Option Nat}
theorem Ent.ok.lt (h : x.ok W) {g : Nat} (hg : x.uses g) : g < W.heap.size := by
  cases x with
  | blk g' c T => obtain rfl : g' = g := hg; exact Blk.lt h
  | row v n xs e size => exact (World.ownsRow.lt h g hg).2
  | see R F => exact h.1 g hg
  | fam vs ls e =>
    obtain ⟨k, v, hv, hg⟩ := hg
    obtain ⟨l, _, hl⟩ := Fam.at h hv
    exact (hl.lt g hg).2
  | itr g' s pos => obtain rfl : g' = g := hg; exact (Array.getElem?_eq_some_iff.1 h).1
theorem Ent.ok.kept (h : x.ok W) (hg : ∀ g, x.uses g → W'.heap[g]? = W.heap[g]?) : x.ok W' := by
  cases x with
  | blk g c T => exact Blk.of_heap h (hg g rfl)
  | row v n xs e size => exact row_kept h hg
  | see R F => exact Seal.keep h hg
  | fam vs ls e => exact ⟨h.1, fun k v l hv hl => row_kept (h.2.1 k v l hv hl) (fun g hb => hg g ⟨k, v, hv, hb⟩), h.2.2⟩
  | itr g s pos => exact (hg g rfl).trans h
end
/-- Behind w: these blocks and rows, and what is read; all else of w is as it was, but for block r. What is read is new, or of S. -/
structure Mm (r : Option Nat) (S : Nat → Prop) (w W : World) (l : List Ent) : Prop where
  ok : ∀ (i : Nat) (x : Ent), l[i]? = some x → x.ok W
  low : ∀ (i : Nat) (x : Ent) (g : Nat), l[i]? = some x → x.own g → w.heap.size ≤ g ∨ r = some g
  src : ∀ (i : Nat) (R : World → Prop) (F : Nat → Prop) (g : Nat), l[i]? = some (.see R F) → F g → w.heap.size ≤ g ∨ S g
  ne : ∀ (i j : Nat) (x y : Ent) (g : Nat), l[i]? = some x → l[j]? = some y → i ≠ j → x.own g → ¬ y.uses g
  frame : w.grownBy W r
theorem grown_refl (w : World) (r : Option Nat) : w.grownBy w r := ⟨rfl, rfl, rfl, Nat.le_refl _, fun _ _ _ => rfl⟩
theorem grown_trans {a b c : World} {r : Option Nat} (h : a.grownBy b r) (k : b.grownBy c r) : a.grownBy c r :=
  ⟨k.os.trans h.os, k.tape.trans h.tape, k.output.trans h.output, Nat.le_trans h.size k.size, fun i hi hr => (k.block i (Nat.lt_of_lt_of_le hi h.size) hr).trans (h.block i hi hr)⟩
theorem below_of {w W : World} (h : w.grownBy W none) : Below w.heap.size w W := ⟨h.os, h.tape, h.output, h.size, fun k hk => h.block k hk (by simp)⟩
theorem grown_of {w W : World} (h : Below w.heap.size w W) (r : Option Nat) : w.grownBy W r := ⟨h.os, h.tape, h.output, h.size, fun k hk _ => h.block k hk⟩
section
variable {r : Option Nat} {S : Nat → Prop} {w W W' : World} {l : List Ent} {g : Nat} {c d : Array Value} {T : TypeId} {R : World → Prop} {F : Nat → Prop}
theorem Mm.nil (r : Option Nat) (S : Nat → Prop) (w : World) : Mm r S w w [] := ⟨fun i x h => by simp at h, fun i x g h => by simp at h, fun i R F g h => by simp at h, fun i j x y g h => by simp at h, grown_refl _ _⟩
theorem Mm.below (h : Mm none S w W l) : Below w.heap.size w W := below_of h.frame
theorem Mm.at (h : Mm r S w W l) (i : Nat) (hi : l[i]? = some (.blk g c T)) : Blk W g c T := h.ok i _ hi
theorem Mm.row (h : Mm r S w W l) (i : Nat) {v : Value} {n : Nat} {xs : List Value} {e : TypeId} {size : Nat} (hi : l[i]? = some (.row v n xs e size)) : W.ownsRow 0 e size v n xs := h.ok i _ hi
theorem Mm.seal (h : Mm r S w W l) (i : Nat) (hi : l[i]? = some (.see R F)) : Seal R F W := h.ok i _ hi
theorem Mm.see (h : Mm r S w W l) (i : Nat) (hi : l[i]? = some (.see R F)) : R W := (h.seal i hi).out
/-- A call that leaves all blocks as they are. -/
theorem Mm.call (h : Mm r S w W l) (hb : Below W.heap.size W W') : Mm r S w W' l :=
  ⟨fun i x hi => (h.ok i x hi).kept fun g hg => hb.block g ((h.ok i x hi).lt hg), h.low, h.src, h.ne, grown_trans h.frame (grown_of hb r)⟩
theorem Mm.drew (h : Mm r S w W l) : Mm r S w W.drew l := ⟨fun i x hi => (h.ok i x hi).kept fun _ _ => rfl, h.low, h.src, h.ne, ⟨h.frame.os, h.frame.tape, h.frame.output, h.frame.size, h.frame.block⟩⟩
theorem get_snoc {x : Ent} : ∀ (i : Nat) (y : Ent), (l ++ [x])[i]? = some y → (i < l.length ∧ l[i]? = some y) ∨ (i = l.length ∧ y = x) := by
  intro i y hi
  by_cases hl : i < l.length
  · rw [List.getElem?_append_left hl] at hi; exact .inl ⟨hl, hi⟩
  · rw [List.getElem?_append_right (by omega)] at hi
    cases hk : i - l.length with
    | zero => rw [hk] at hi; simp at hi; exact .inr ⟨by omega, hi.symm⟩
    | succ k => rw [hk] at hi; simp at hi
/-- One more. -/
theorem Mm.moreG (h : Mm r S w W l) (hb : Below W.heap.size W W') {x : Ent} (hx : x.ok W') (hn : ∀ g, x.own g → W.heap.size ≤ g) (hu : ∀ g, x.uses g → ∀ (i : Nat) (y : Ent), l[i]? = some y → ¬ y.own g)
    (hs : ∀ R F g, x = .see R F → F g → w.heap.size ≤ g ∨ S g) : Mm r S w W' (l ++ [x]) := by
  have h' := h.call hb
  refine ⟨fun i y hi => ?_, fun i y g hi hg => ?_, fun i R F g hi hg => ?_, fun i j y z g hi hj hij hg hz => ?_, h'.frame⟩
  · rcases get_snoc _ _ hi with ⟨_, h1⟩ | ⟨_, rfl⟩
    · exact h'.ok _ _ h1
    · exact hx
  · rcases get_snoc _ _ hi with ⟨_, h1⟩ | ⟨_, rfl⟩
    · exact h.low _ _ _ h1 hg
    · exact .inl (Nat.le_trans h.frame.size (hn g hg))
  · rcases get_snoc _ _ hi with ⟨_, h1⟩ | ⟨_, e⟩
    · exact h.src _ _ _ _ h1 hg
    · exact hs _ _ _ e.symm hg
  · rcases get_snoc _ _ hi with ⟨_, h1⟩ | ⟨e1, rfl⟩
    · rcases get_snoc _ _ hj with ⟨_, h2⟩ | ⟨_, rfl⟩
      · exact h.ne _ _ _ _ _ h1 h2 hij hg hz
      · exact hu g hz _ _ h1 hg
    · rcases get_snoc _ _ hj with ⟨_, h2⟩ | ⟨e2, rfl⟩
      · exact absurd (hn g hg) (Nat.not_le.2 ((h.ok _ _ h2).lt hz))
      · omega
/-- One more that is new. -/
theorem Mm.more (h : Mm r S w W l) (hb : Below W.heap.size W W') {x : Ent} (hx : x.ok W') (hn : ∀ g, x.uses g → W.heap.size ≤ g) : Mm r S w W' (l ++ [x]) :=
  h.moreG hb hx (fun g hg => hn g (Ent.own_uses hg)) (fun g hg i y hi hy => absurd (hn g hg) (Nat.not_le.2 ((h.ok _ _ hi).lt (Ent.own_uses hy))))
    (fun R F g e hg => .inl (Nat.le_trans h.frame.size (hn g (by rw [e]; exact hg))))
theorem Mm.alloc (h : Mm r S w W l) (c : Array Value) (T : TypeId) : Mm r S w (W.alloc (.cells c T)) (l ++ [.blk W.heap.size c T]) :=
  h.more ((Below.refl _ _).alloc (Nat.le_refl _) _) (Blk.new W c T) (fun g hg => by have hg : W.heap.size = g := hg; omega)
/-- What came in to be read. -/
theorem Mm.came (h : Mm none S w W l) (hs : Seal R F w) (hS : ∀ g, F g → S g) : Mm none S w W (l ++ [.see R F]) :=
  h.moreG (Below.refl _ _) (Seal.below hs h.below) (fun g hg => hg.elim)
    (fun g hg i y hi hy => by
      rcases h.low i y g hi hy with h1 | h1
      · exact absurd h1 (Nat.not_le.2 (hs.1 g hg))
      · cases h1)
    (fun R' F' g e hg => by
      simp only [Ent.see.injEq] at e
      exact .inr (hS g (by rw [e.2]; exact hg)))
/-- What is read is nobody's own. -/
theorem Mm.apart (h : Mm r S w W l) (i : Nat) (hi : l[i]? = some (.see R F)) (hg : F g) (j : Nat) (y : Ent) (hj : l[j]? = some y) : ¬ y.own g := by
  intro hy
  by_cases e : j = i
  · subst e
    rw [hi] at hj
    obtain rfl := Option.some.inj hj
    exact hy
  · exact h.ne j i y (.see R F) g hj hi e hy hg
theorem get_set {i : Nat} {x y : Ent} (hi : l[i]? = some x) : ∀ (j : Nat) (z : Ent), (l.set i y)[j]? = some z → (j = i ∧ z = y) ∨ (j ≠ i ∧ l[j]? = some z) := by
  have hl : i < l.length := (List.getElem?_eq_some_iff.1 hi).1
  intro j z hj
  by_cases e : j = i
  · subst e; rw [List.getElem?_set_self hl] at hj; simp at hj; exact .inl ⟨rfl, hj.symm⟩
  · rw [List.getElem?_set_ne (fun e' => e e'.symm)] at hj; exact .inr ⟨e, hj⟩
/-- One is another. -/
theorem Mm.changeG (h : Mm r S w W l) (i : Nat) {x y : Ent} (hi : l[i]? = some x) {o : Option Nat} (hg : W.grownBy W' o) (ho : ∀ g, o = some g → x.own g) (hy : y.ok W') (hu : ∀ g, y.uses g → x.uses g ∨ W.heap.size ≤ g) (hn : ∀ g, y.own g → x.own g ∨ W.heap.size ≤ g)
    (hs : ∀ R F g, y = .see R F → F g → w.heap.size ≤ g ∨ S g) : Mm r S w W' (l.set i y) := by
  have key := get_set (y := y) hi
  have old : ∀ (j : Nat) (z : Ent), l[j]? = some z → j ≠ i → ∀ g, z.uses g → g < W.heap.size ∧ ¬ x.own g := fun j z hj hji g hz =>
    ⟨(h.ok j z hj).lt hz, fun hx => h.ne i j x z g hi hj (fun e => hji e.symm) hx hz⟩
  refine ⟨fun j z hj => ?_, fun j z g hj hz => ?_, fun j R F g hj hz => ?_, fun j k z z' g hj hk hjk hz hz' => ?_, ?_⟩
  · rcases key _ _ hj with ⟨_, rfl⟩ | ⟨e, h1⟩
    · exact hy
    · exact (h.ok _ _ h1).kept fun g hz => hg.block g (old _ _ h1 e g hz).1 (fun e' => (old _ _ h1 e g hz).2 (ho g e'.symm))
  · rcases key _ _ hj with ⟨_, rfl⟩ | ⟨e, h1⟩
    · rcases hn g hz with hx | hx
      · exact h.low _ _ _ hi hx
      · exact .inl (Nat.le_trans h.frame.size hx)
    · exact h.low _ _ _ h1 hz
  · rcases key _ _ hj with ⟨_, e1⟩ | ⟨e, h1⟩
    · exact hs _ _ _ e1.symm hz
    · exact h.src _ _ _ _ h1 hz
  · rcases key _ _ hj with ⟨e1, rfl⟩ | ⟨e, h1⟩
    · rcases key _ _ hk with ⟨e2, rfl⟩ | ⟨e2, h2⟩
      · omega
      · rcases hn g hz with hx | hx
        · exact (old _ _ h2 e2 g hz').2 hx
        · exact absurd hx (Nat.not_le.2 (old _ _ h2 e2 g hz').1)
    · rcases key _ _ hk with ⟨e2, rfl⟩ | ⟨e2, h2⟩
      · rcases hu g hz' with hx | hx
        · exact h.ne j i z x g h1 hi e hz hx
        · exact absurd hx (Nat.not_le.2 (old _ _ h1 e g (Ent.own_uses hz)).1)
      · exact h.ne _ _ _ _ _ h1 h2 hjk hz hz'
  · refine ⟨hg.os.trans h.frame.os, hg.tape.trans h.frame.tape, hg.output.trans h.frame.output, Nat.le_trans h.frame.size hg.size, fun k hk hr => ?_⟩
    refine (hg.block k (Nat.lt_of_lt_of_le hk h.frame.size) fun e => ?_).trans (h.frame.block k hk hr)
    rcases h.low i x k hi (ho k e.symm) with h1 | h1
    · omega
    · exact hr h1.symm
/-- One that is written is another that is. -/
theorem Mm.change (h : Mm r S w W l) (i : Nat) {x y : Ent} (hi : l[i]? = some x) {o : Option Nat} (hg : W.grownBy W' o) (ho : ∀ g, o = some g → x.own g) (hy : y.ok W') (hn : ∀ g, y.own g → x.own g ∨ W.heap.size ≤ g) (hp : y.plain = true := by rfl) : Mm r S w W' (l.set i y) := by
  refine h.changeG i hi hg ho hy (fun g hu => ?_) hn (fun R F g e => by rw [e] at hp; cases hp)
  have : y.own g := by cases y <;> first | exact hu | cases hp
  exact (hn g this).imp (fun h => Ent.own_uses h) id
theorem grown_set (W : World) (g : Nat) (d : Array Value) : W.grownBy (W.setRow g d) (some g) :=
  ⟨rfl, rfl, rfl, by simp, fun k _ hr => Go.setRow_other W g k d (fun e => hr (by rw [e]))⟩
theorem Mm.set (h : Mm r S w W l) (i : Nat) (hi : l[i]? = some (.blk g c T)) (d : Array Value) (hd : d.size = c.size) : Mm r S w (W.setRow g d) (l.set i (.blk g d T)) :=
  h.change i hi (grown_set W g d) (fun _ e => Option.some.inj e) ((h.at i hi).set hd) (fun _ e => .inl e)
/-- One cell is written. -/
theorem Mm.put (h : Mm r S w W l) (i : Nat) (hi : l[i]? = some (.blk g c T)) (j : Nat) (v : Value) (hd : c.setIfInBounds j v = d) : Mm r S w (W.setCell ⟨g, j, none⟩ v) (l.set i (.blk g d T)) := by
  rw [(h.at i hi).setCell j v, hd]
  exact h.set i hi d (by rw [← hd, Array.size_setIfInBounds])
end

/-! ### Operations that change memory -/
section
variable {P : Program} {Q : Exit → Act → World → Prop} {K : Act → World → Prop} {oi : Oper} {a : Act} {r : Option Nat} {S : Nat → Prop} {w0 w : World} {l : List Ent}
theorem m_alloc {c : Array Value} {T : TypeId} (hm : Mm r S w0 w l) (d : Tmp) (hd : oi.dst = some d) (hrun : (execOp a.eval oi).run P w = .ok (.value (.pointer (some ⟨w.heap.size, 0, none⟩))) (w.alloc (.cells c T)))
    (h : ∀ g w', Mm r S w0 w' (l ++ [.blk g c T]) → K { a with tmps := a.tmps.setIfInBounds d (.pointer (some ⟨g, 0, none⟩)) } w') : oi.wp P a w K Q := by
  unfold Oper.wp
  rw [hrun]
  have := h _ _ (hm.alloc c T)
  show K (a.put oi.dst _) _
  unfold Act.put
  rw [hd]
  exact this
/-- A slice that is made, or written out. -/
theorem m_make {c : Array Value} {T : TypeId} (v : Nat → Value) (hm : Mm r S w0 w l) (d : Tmp) (hd : oi.dst = some d) (hrun : (execOp a.eval oi).run P w = .ok (.value (v w.heap.size)) (w.alloc (.cells c T)))
    (h : ∀ g w', Mm r S w0 w' (l ++ [.blk g c T]) → K { a with tmps := a.tmps.setIfInBounds d (v g) } w') : oi.wp P a w K Q := by
  unfold Oper.wp
  rw [hrun]
  have := h _ _ (hm.alloc c T)
  show K (a.put oi.dst _) _
  unfold Act.put
  rw [hd]
  exact this
theorem storeCells_blk (g : Nat) (t : TypeId) : ∀ (vs : List Value) (o i : Nat) (cur : Array Value) (w : World), Blk w g cur t → o + i + vs.length ≤ cur.size → (∀ v ∈ vs, v.oneCell' = true) →
    (storeCells ⟨g, o, none⟩ vs i).run P w = .ok () (w.setRow g (cur.toList.take (o + i) ++ vs ++ cur.toList.drop (o + i + vs.length)).toArray)
  | [], o, i, cur, w, hg, _, _ => by
    obtain ⟨fz, hg, _⟩ := hg
    simp only [storeCells, List.append_nil, List.length_nil, Nat.add_zero, List.take_append_drop, Array.toArray_toList]
    rw [setRow_self w g cur t fz hg]
    rfl
  | v :: rest, o, i, cur, w, hg, hl, h1 => by
    have hi : o + i < cur.size := by simp at hl; omega
    have hcell : w.cell? ⟨g, o + i, none⟩ = some cur[o + i] := by rw [hg.cell, Array.getElem?_eq_getElem hi]
    have hfro := hg.frozen (o + i) hi
    have hst : (store ((⟨g, o, none⟩ : Addr).add i) v).run P w = .ok () (w.setRow g (cur.setIfInBounds (o + i) v)) := by
      rw [add_lit, run_store P w _ v _ (h1 v (by simp)), hcell]
      simp [hfro, hg.setCell]
    have ih := storeCells_blk g t rest o (i + 1) (cur.setIfInBounds (o + i) v) (w.setRow g (cur.setIfInBounds (o + i) v)) (hg.set (by simp)) (by simp at hl ⊢; omega) (fun x hx => h1 x (by simp [hx]))
    simp only [storeCells, Sem.run_bind, hst, Result.andThen_ok, ih, setRow_setRow]
    congr 3
    have e := list_seg_step cur.toList (o + i) v rest (by simp at hl ⊢; omega)
    simpa [Array.toList_setIfInBounds, Nat.add_assoc] using e
/-- Cells are written into a block, from place o on. -/
def into (c : Array Value) (o : Nat) (v : Array Value) : Array Value := (c.toList.take o ++ v.toList ++ c.toList.drop (o + v.size)).toArray
theorem into_size (c v : Array Value) (o : Nat) (h : o + v.size ≤ c.size) : (into c o v).size = c.size := by simp [into]; omega
theorem m_store (i : Nat) (ty : TypeId) (x y : Operand) {g : Nat} (o : Nat) (v : Value) {T : TypeId} {old : Array Value} (hm : Mm r S w0 w l) (hi : l[i]? = some (.blk g old T)) (hd : oi.dst = none)
    (ho : oi.op = .store ty x y) (hx : a.eval x = .pointer (some ⟨g, o, none⟩)) (hy : a.eval y = v) (hz : (P.info? ty).map (·.size) = some v.cells.size)
    (hold : o + v.cells.size ≤ old.size) (h1 : v.cells.all (·.oneCell') = true) {new : Array Value} (hnew : into old o v.cells = new) (h : ∀ w', Mm r S w0 w' (l.set i (.blk g new T)) → K a w') : oi.wp P a w K Q := by
  have hst := storeCells_blk (P := P) g T v.cells.toList o 0 old w (hm.at i hi) (by simpa using hold) (fun v hv => (Array.all_eq_true_iff_forall_mem.1 h1) v (by simpa using hv))
  have hrun : (storeVar ty ⟨g, o, none⟩ v).run P w = .ok () (w.setRow g (into old o v.cells)) := by
    cases hq : P.info? ty with
    | none => simp [hq] at hz
    | some i =>
      have hs : v.cells.size = i.size := by simp [hq] at hz; omega
      have hf : i.size = v.cells.size := hs.symm
      simp only [Nat.add_zero] at hst
      simp [storeVar, sizeOf, typeInfo, hq, hf, hst, into]
  unfold Oper.wp execOp
  simp only [ho, hx, hy, Instr.storeAt, Instr.sureAddr, Sem.run_bind, Sem.run_pure, Result.andThen_ok, hrun]
  show K (a.put oi.dst undef) _
  unfold Act.put
  rw [hd]
  refine h _ ?_
  rw [← hnew]
  exact hm.set i hi _ (into_size _ _ _ hold)
theorem m_call {f : FuncId} {args : Array Value} (hm : Mm r S w0 w l) (d : Tmp) (v : Value) (hd : oi.dst = some d) (hrun : (execOp a.eval oi).run P w = .ok (.enter f args) w) (hc : Calls P f args w fun e w' => e = .returned v ∧ Below w.heap.size w w')
    (h : ∀ w', Mm r S w0 w' l → K { a with tmps := a.tmps.setIfInBounds d v } w') : oi.wp P a w K Q :=
  Sym.w_enter d v hd hrun hc fun w' hb => h w' (hm.call hb)
/-- A call of whose result something is known, and that may have made blocks. -/
theorem m_callx {f : FuncId} {args : Array Value} {R : Value → World → Prop} (hm : Mm r S w0 w l) (d : Tmp) (hd : oi.dst = some d) (hrun : (execOp a.eval oi).run P w = .ok (.enter f args) w) (hc : Calls P f args w fun e w' => (∃ v, e = .returned v ∧ R v w') ∧ Below w.heap.size w w')
    (h : ∀ v w', R v w' → Below w.heap.size w w' → Mm r S w0 w' l → K { a with tmps := a.tmps.setIfInBounds d v } w') : oi.wp P a w K Q := by
  unfold Oper.wp
  rw [hrun]
  show Calls P f args w _
  refine hc.mono ?_
  rintro e w' ⟨⟨v, rfl, hv⟩, hb⟩
  have := h v w' hv hb (hm.call hb)
  show K (a.put oi.dst v) w'
  unfold Act.put
  rw [hd]
  exact this
theorem nextcap_sharp {need old : Nat} (h : old < need) : Builtin.nextslicecap need old ≤ need + need / 4 + 512 := by
  unfold Builtin.nextslicecap
  split
  · omega
  · split
    · omega
    · rw [growBy_four]
      repeat' split
      all_goals omega
theorem cap_fits {need old bytes : Nat} (h : old < need) (hb : bytes ≤ 4096) (h2 : need * bytes ≤ 180000000000000) : Builtin.nextslicecap need old * bytes ≤ 281474976710656 := by
  have a := Nat.mul_le_mul_right bytes (nextcap_sharp h)
  rw [Nat.add_mul, Nat.add_mul] at a
  have b : need / 4 * bytes * 4 ≤ need * bytes := by
    rw [Nat.mul_assoc, Nat.mul_comm bytes 4, ← Nat.mul_assoc]
    exact Nat.mul_le_mul_right _ (Nat.div_mul_le_self need 4)
  omega
/-- 'append' to a row, however long, that has elements enough. -/
theorem run_append_wide {P : Program} {w : World} (t ty e : TypeId) (i : TypeInfo) (z : Value) (size bytes : Nat) (ht : P.underlying t = some (.slice e)) (hi : P.info? e = some i) (hz : i.zero = some z)
    (hsize : i.size = size) (hby : i.bytes = bytes) (hzs : z.cells.size = size) (hsz : 0 < size) (v : Value) (n : Nat) (xs : List Value) (hown : w.ownsRow 0 e size v n xs)
    (a : Addr) (m c : Nat) (news : List Value) (hl : news.length = m * size) (hnews : ∀ j u, news[j]? = some u → w.cell? (a.add j) = some u) (h1 : ∀ u ∈ news, u.oneCell' = true)
    (h63 : n + m ≤ maxLen) (hbb : bytes ≤ 4096) (hbytes : (n + m) * bytes ≤ 180000000000000) :
    ∃ v' w', (Builtin.append_ #[t, t] ty #[v, .slice (some a) m c]).run P w = .ok v' w' ∧ w'.ownsRow 0 e size v' (n + m) (xs ++ news) ∧ w.grownBy w' v.ownBlock ∧
      (v' = .slice none 0 0 ↔ v = .slice none 0 0 ∧ m = 0) ∧ (v'.ownBlock = v.ownBlock ∨ v'.ownBlock = some w.heap.size) := by
  by_cases hs : (n + m) * bytes ≤ 140737488355328
  · exact run_append_own_at (P := P) w 0 t ty e i z size bytes ht hi hz hsize hby hzs hsz v n xs hown a m c news hl hnews h1 h63 hs (Nat.zero_le _)
  subst hsize
  subst hby
  have hsmall : n + m ≤ 9223372036854775807 := by simp only [maxLen] at h63; omega
  have hlen : (xs ++ news).length = (n + m) * i.size := by rw [List.length_append, hown.1, hl, Nat.add_mul]
  have hlx := hown.1
  have grown : ∀ (old : Nat), old < n + m → ∀ (row : Option Nat),
      (w.drew.alloc (.cells (xs.toArray ++ news.toArray ++ Builtin.zeroCells z.cells (grownCap w (n + m) old e - (n + m))) e)).ownsRow 0 e i.size
        (.slice (some ⟨w.heap.size, 0, none⟩) (n + m) (grownCap w (n + m) old e)) (n + m) (xs ++ news) ∧
      w.grownBy (w.drew.alloc (.cells (xs.toArray ++ news.toArray ++ Builtin.zeroCells z.cells (grownCap w (n + m) old e - (n + m))) e)) row := by
    intro old ho row
    have hge := grownCap_ge w (n + m) old e
    have hcm : grownCap w (n + m) old e ≤ maxLen := grownCap_le_maxLen w (n + m) old e h63
    refine ⟨⟨hlen, .inr ⟨w.heap.size, _, _, rfl, Nat.zero_le _, heap_alloc_new w.drew _, hge, hcm, ?_, ?_⟩⟩, ⟨rfl, rfl, rfl, by simp, fun k hk _ => heap_alloc_old w.drew _ hk⟩⟩
    · simp only [Array.size_append, List.size_toArray, size_zeroCells, hzs, hlx, hl, ← Nat.add_mul]
      congr 1
      omega
    · simp only [Array.toList_append, List.append_assoc]
      rw [← List.append_assoc, ← hlen]
      exact List.take_left
  rcases hown.2 with ⟨rfl, rfl⟩ | ⟨g, cap, cur, rfl, hbg, hg, hnc, hcm, hcs, htake⟩
  · have hx : xs = [] := List.eq_nil_of_length_eq_zero (by simpa using hown.1)
    subst hx
    by_cases hm : m = 0
    · subst hm
      simp at hs
    · have hr := run_append_nil (P := P) w t ty e i z ht hi hz a m c news hl hnews (by omega) (by omega) (by have hb := hbytes; simp only [Nat.zero_add] at hb; omega)
      have hgr := grown 0 (by omega) (Value.ownBlock (.slice none 0 0))
      simp only [Nat.zero_add, List.nil_append, Array.empty_append] at hgr ⊢
      exact ⟨_, _, hr, hgr.1, hgr.2, by simp [hm], .inr rfl⟩
  · by_cases hroom : n + m ≤ cap
    · have hfit : n * i.size + news.length ≤ cur.size := by rw [hl, hcs, ← Nat.add_mul]; exact Nat.mul_le_mul_right _ hroom
      have hr := run_append_room (P := P) w t ty e i ht hi g n cap cur hg a m c news hl hnews h1 hroom hfit
      refine ⟨_, _, hr, ⟨hlen, .inr ⟨g, cap, _, rfl, hbg, setRow_heap w g cur _ e _ hg, hroom, hcm, ?_, ?_⟩⟩, ⟨rfl, rfl, rfl, by simp, fun k _ hk => setRow_other w g k _ (fun e => hk (by simp [Value.ownBlock, e]))⟩, by simp, .inl rfl⟩
      · simp only [List.size_toArray, List.length_append, List.length_take, List.length_drop, Array.length_toList]
        omega
      · rw [htake, ← hlen]
        exact List.take_left
    · have holds : ∀ j u, xs[j]? = some u → w.cell? ((⟨g, 0, none⟩ : Addr).add j) = some u := hown.cells (g := g) rfl
      have hr := run_append_grow (P := P) w t ty e i z ht hi hz ⟨g, 0, none⟩ n cap xs hown.1 holds a m c news hl hnews (by omega) (by omega) (cap_fits (by omega) hbb hbytes)
      have hgr := grown cap (by omega) (Value.ownBlock (.slice (some ⟨g, 0, none⟩) n cap))
      exact ⟨_, _, hr, hgr.1, hgr.2, by simp, .inr rfl⟩
/-- 'append' to a row. -/
theorem m_append (i : Nat) {v : Value} {n m c : Nat} {xs news : List Value} {e : TypeId} {size bytes : Nat} (inf : TypeInfo) (z : Value) (s x : Operand) (t : TypeId) (ad : Addr) (hm : Mm r S w0 w l) (hi : l[i]? = some (.row v n xs e size)) (d : Tmp) (hd : oi.dst = some d)
    (ho : oi.op = .call { callee := .builtin .append, args := #[s, x], argTypes := #[t, t] }) (ht : P.underlying t = some (.slice e)) (hinf : P.info? e = some inf) (hz : inf.zero = some z)
    (hsize : inf.size = size) (hby : inf.bytes = bytes) (hzs : z.cells.size = size) (hsz : 0 < size) (hs : a.eval s = v) (hx : a.eval x = .slice (some ad) m c) (hl : news.length = m * size) (hnews : ∀ j u, news[j]? = some u → w.cell? (ad.add j) = some u) (h1 : ∀ u ∈ news, u.oneCell' = true)
    (h63 : n + m ≤ maxLen) (hbb : bytes ≤ 4096) (hbytes : (n + m) * bytes ≤ 180000000000000)
    (h : ∀ v' w', (v' = .slice none 0 0 ↔ v = .slice none 0 0 ∧ m = 0) → Mm r S w0 w' (l.set i (.row v' (n + m) (xs ++ news) e size)) → K { a with tmps := a.tmps.setIfInBounds d v' } w') : oi.wp P a w K Q := by
  obtain ⟨v', w', hr, h2, h3, h4, h5⟩ := run_append_wide (P := P) (w := w) t oi.type e inf z size bytes ht hinf hz hsize hby hzs hsz v n xs (hm.row i hi) ad m c news hl hnews h1 h63 hbb hbytes
  have h6 : ∀ g, v'.ownBlock = some g → v.ownBlock = some g ∨ w.heap.size ≤ g := by
    intro g hg
    rcases h5 with h5 | h5
    · exact .inl (by rw [← h5, hg])
    · rw [hg, Option.some.injEq] at h5
      exact .inr (by omega)
  have := h v' w' h4 (hm.change i hi h3 (fun _ e => e) h2 h6)
  unfold Oper.wp execOp
  simp only [ho, resolve, invoke, builtin, Sem.run_bind, Sem.run_pure, Result.andThen_ok, List.map_toArray, List.map_cons, List.map_nil, hs, hx, hr]
  show K (a.put oi.dst _) _
  unfold Act.put
  rw [hd]
  exact this
end

/-! ### Operations that read memory -/
/-- Types that one cell holds. -/
def lone1 : TypeDesc → Bool
  | .struct _ => false
  | .array _ _ => false
  | _ => true
/-- The cells from place o on, n of them. -/
def part (c : Array Value) (o n : Nat) : Array Value := ((c.toList.drop o).take n).toArray
section
variable {P : Program} {o : Oper} {a : Act} {w : World} {x y : Operand} {T t e : TypeId} {g : Nat} {c : Array Value}
/-- A cell of any world. -/
theorem r_cellw {i : Nat} {v : Value} {d : TypeDesc} (h1 : w.cell? ⟨g, i, none⟩ = some v) (hu : P.underlying T = some d) (hd : lone1 d = true) (ho : o.op = .load T x) (hx : a.eval x = .pointer (some ⟨g, i, none⟩)) :
    (execOp a.eval o).run P w = .ok (.value v) w := by
  have h2 : (isAgg T).run P w = .ok false w := by
    unfold isAgg
    rw [Sem.run_bind, run_underlying hu w]
    cases d <;> simp_all [lone1]
  unfold execOp
  simp only [ho, hx]
  generalize a.eval = g at *
  go_simp
/-- A struct or an array out of any world's cells. -/
theorem r_partw {i : Nat} {cs : Array Value} {d : TypeDesc} (h1 : ∀ j v, cs[j]? = some v → w.cell? ⟨g, i + j, none⟩ = some v) (hu : P.underlying T = some d) (hd : lone1 d = false) (hz : (P.info? T).map (·.size) = some cs.size) (ho : o.op = .load T x) (hx : a.eval x = .pointer (some ⟨g, i, none⟩)) :
    (execOp a.eval o).run P w = .ok (.value (.agg cs)) w := by
  have hl : (loadCells ⟨g, i, none⟩ cs.toList.length).run P w = .ok cs.toList.toArray w :=
    run_loadCells_list (P := P) w ⟨g, i, none⟩ cs.toList (fun j v hv => by
      rw [add_lit]
      exact h1 j v (by simpa using hv))
  have hr : (loadVar T ⟨g, i, none⟩).run P w = .ok (.agg cs) w := by
    cases hq : P.info? T with
    | none => simp [hq] at hz
    | some inf =>
      have hs : inf.size = cs.size := by simpa [hq] using hz
      have hagg : (isAgg T).run P w = .ok true w := by
        unfold isAgg
        rw [Sem.run_bind, run_underlying hu w]
        cases d <;> simp_all [lone1]
      simp only [Array.length_toList, Array.toArray_toList] at hl
      simp [loadVar, Sem.run_bind, hagg, sizeOf, typeInfo, hq, hs, hl]
  unfold execOp
  simp only [ho, hx, Instr.loadAt, Instr.sureAddr, Sem.run_bind, Sem.run_pure, Result.andThen_ok, hr]
/-- Bytes as cells. -/
def bv (b : UInt8) : Value := .int .u8 (b.toNat : Int)
theorem r_string (s : ByteArray) (i n : Nat) (c' : Nat) (hb : Blk w g c t) (hn : s.size = n) (hc : ∀ j (hj : j < s.size), c[i + j]? = some (bv s[j])) (hs : P.underlying T = some (.slice e)) (he : P.underlying e = some (.int .u8)) {T' : TypeId} (hd : P.underlying T' = some .string)
    (ho : o.op = .convert T T' x) (hx : a.eval x = .slice (some ⟨g, i, none⟩) n c') : (execOp a.eval o).run P w = .ok (.value (.string s)) w := by
  subst hn
  have h1 := run_convert_bytes_back (P := P) w T T' e ⟨g, i, none⟩ c' s.data.toList hs he hd (fun j hj => by
    rw [add_lit, hb.cell]
    exact hc j (show j < s.size from hj))
  have e1 : s.data.toList.length = s.size := rfl
  rw [e1] at h1
  unfold execOp
  simp only [ho, hx]
  simp only [Sem.run_bind, h1]
  rfl
/-- Where an element of a slice lies. -/
theorem r_ixS {k : IntKind} (g o' i n c z : Nat) (hi : i < n) (hT : P.underlying T = some (.slice e)) (hz : (P.info? e).map (·.size) = some z) (ho : o.op = .indexAddr T x y)
    (hx : a.eval x = .slice (some ⟨g, o', none⟩) n c) (hy : a.eval y = .int k (i : Int)) : (execOp a.eval o).run P w = .ok (.value (.pointer (some ⟨g, o' + i * z, none⟩))) w := by
  have he : P.elem T = e := by unfold Program.elem; rw [hT]
  have h1 := run_indexAt_slice (P := P) w T ⟨g, o', none⟩ n c k (i : Int) (by rw [he]; exact hT)
  have h2 : (sizeOf e).run P w = .ok z w := by
    cases h : P.info? e with
    | none => rw [h] at hz; cases hz
    | some inf =>
      rw [h] at hz
      simp only [Option.map_some, Option.some.injEq] at hz
      simp [sizeOf, typeInfo, h, hz]
  rw [he, if_pos (by omega), h2] at h1
  unfold execOp
  simp only [ho, hx, hy]
  simp only [Sem.run_bind, h1]
  simp only [Result.andThen, Int.toNat_natCast, add_lit]
  rfl
end
end Go.Proofs.YtjbnmeofjiokeaaGreatDoor.Mem
namespace Go.Proofs.YtjbnmeofjiokeaaGreatDoor.Mem
open Go.RowKit

/-! ### Texts -/
/-- The text of these bytes; a text's bytes. -/
def tx (l : List UInt8) : ByteArray := ⟨l.toArray⟩
def bl (s : ByteArray) : List UInt8 := s.data.toList
theorem tx_bl (s : ByteArray) : tx (bl s) = s := by simp [tx, bl]
theorem tx_size (l : List UInt8) : (tx l).size = l.length := by simp [tx, ByteArray.size]
theorem tx_app (a b : List UInt8) : tx a ++ tx b = tx (a ++ b) := by
  apply ByteArray.ext
  rw [ByteArray.data_append]
  simp [tx]
theorem tx_get (l : List UInt8) (i : Nat) (h : i < (tx l).size) : (tx l)[i]'h = l[i]'(by rw [tx_size] at h; exact h) := rfl
theorem tx_cut (l : List UInt8) (i j : Nat) : (tx l).extract i j = tx ((l.take j).drop i) := by
  apply ByteArray.ext
  simp [tx, ByteArray.data_extract, List.extract_toArray, List.extract, List.drop_take]
theorem tx_list (l : List UInt8) : (tx l).toList = l := by rw [ByteArray.toList_eq]; simp [tx]
/-- The byte in a place; 0 behind the end. -/
def by' (l : List UInt8) (i : Nat) : Nat := (l.getD i 0).toNat
theorem by_at (l : List UInt8) (i : Nat) (h : i < l.length) : (l[i]'h).toNat = by' l i := by simp [by', h]
theorem by_lt (l : List UInt8) (i : Nat) : by' l i < 256 := (l.getD i 0).toNat_lt
section
variable {P : Program} {o : Oper} {a : Act} {w : World} {x y lo hi : Operand} {T T' : TypeId} {k k' : IntKind}
theorem t_len {l : List UInt8} (ho : o.op = .call { callee := .builtin .len, args := #[x], argTypes := #[T] }) (hT : P.underlying T = some .string) (hx : a.eval x = .string (tx l)) : (execOp a.eval o).run P w = .ok (.value (.int .i64 ((l.length : Nat) : Int))) w := by
  have := Sx.r_len (P := P) (w := w) ho hT hx
  rw [tx_size] at this
  exact this
theorem t_char (l : List UInt8) (i : Nat) (hi : i < l.length) (hT : P.underlying T = some .string) (ho : o.op = .index T x y) (hx : a.eval x = .string (tx l)) (hy : a.eval y = .int k (i : Int)) :
    (execOp a.eval o).run P w = .ok (.value (.int .u8 ((by' l i : Nat) : Int))) w :=
  Sx.r_char i (by' l i) (by rw [tx_size]; exact hi) (by rw [tx_get, by_at]) hT ho hx hy
theorem t_cat (s t : List UInt8) (hst : s.length + t.length ≤ 9223372036854775807) (ho : o.op = .binOp .add T x y T') (hx : a.eval x = .string (tx s)) (hy : a.eval y = .string (tx t)) : (execOp a.eval o).run P w = .ok (.value (.string (tx (s ++ t)))) w := by
  have := Sx.r_cat (P := P) (w := w) (tx s) (tx t) (by rw [tx_size, tx_size]; exact hst) ho hx hy
  rw [tx_app] at this
  exact this
theorem t_cut (s : List UInt8) (i j : Nat) (h1 : i ≤ j) (h2 : j ≤ s.length) (hT : P.underlying T = some .string) (ho : o.op = .slice T x (some lo) (some hi) none) (hx : a.eval x = .string (tx s)) (hl : a.eval lo = .int k (i : Int)) (hh : a.eval hi = .int k' (j : Int)) :
    (execOp a.eval o).run P w = .ok (.value (.string (tx ((s.take j).drop i)))) w := by
  have e := run_slice_string (P := P) (w := w) T (tx s) k k' i j hT (by omega) (by omega) (by rw [tx_size]; omega)
  rw [Int.toNat_natCast, Int.toNat_natCast, tx_cut] at e
  unfold execOp
  simp only [ho, hx, hl, hh, Option.map_some, Option.map_none]
  simp only [Sem.run_bind, Instr.sliceAt, run_underlying hT, Result.andThen_ok, e]
  rfl
theorem t_from (s : List UInt8) (i : Nat) (h1 : i ≤ s.length) (hT : P.underlying T = some .string) (ho : o.op = .slice T x (some lo) none none) (hx : a.eval x = .string (tx s)) (hl : a.eval lo = .int k (i : Int)) :
    (execOp a.eval o).run P w = .ok (.value (.string (tx (s.drop i)))) w := by
  have e := run_slice_string_l (P := P) w T (tx s) hT k i (by omega) (by rw [tx_size]; omega)
  rw [Int.toNat_natCast, tx_cut, tx_size, List.take_length] at e
  unfold execOp
  simp only [ho, hx, hl, Option.map_some, Option.map_none]
  simp only [Sem.run_bind, Instr.sliceAt, run_underlying hT, Result.andThen_ok, e]
  rfl
theorem t_to (s : List UInt8) (j : Nat) (h1 : j ≤ s.length) (hT : P.underlying T = some .string) (ho : o.op = .slice T x none (some hi) none) (hx : a.eval x = .string (tx s)) (hh : a.eval hi = .int k (j : Int)) :
    (execOp a.eval o).run P w = .ok (.value (.string (tx (s.take j)))) w := by
  have e := run_slice_string_h (P := P) w T (tx s) hT k j (by omega) (by rw [tx_size]; omega)
  rw [Int.toNat_natCast, tx_cut, List.drop_zero] at e
  unfold execOp
  simp only [ho, hx, hh, Option.map_some, Option.map_none]
  simp only [Sem.run_bind, Instr.sliceAt, run_underlying hT, Result.andThen_ok, e]
  rfl
/-- Byte by byte: is the first one ahead? -/
def lt' (s t : List UInt8) : Bool := Op.bytesLess s t
theorem t_eql (s t : List UInt8) (ho : o.op = .binOp .eql T x y T') (hx : a.eval x = .string (tx s)) (hy : a.eval y = .string (tx t)) : (execOp a.eval o).run P w = .ok (.value (.bool (decide (s = t)))) w := by
  have e : ((tx s).toList == (tx t).toList) = decide (s = t) := by rw [tx_list, tx_list, Bool.eq_iff_iff, beq_iff_eq, decide_eq_true_iff]
  unfold execOp
  simp only [ho, hx, hy]
  generalize a.eval = f at *
  go_simp
theorem t_neq (s t : List UInt8) (ho : o.op = .binOp .neq T x y T') (hx : a.eval x = .string (tx s)) (hy : a.eval y = .string (tx t)) : (execOp a.eval o).run P w = .ok (.value (.bool (decide (¬ s = t)))) w := by
  have e : ((tx s).toList == (tx t).toList) = decide (s = t) := by rw [tx_list, tx_list, Bool.eq_iff_iff, beq_iff_eq, decide_eq_true_iff]
  have e2 : ((tx s).toList != (tx t).toList) = decide (¬ s = t) := by unfold bne; rw [e, decide_not]
  unfold execOp
  simp only [ho, hx, hy]
  generalize a.eval = f at *
  go_simp
theorem t_lss (s t : List UInt8) (ho : o.op = .binOp .lss T x y T') (hx : a.eval x = .string (tx s)) (hy : a.eval y = .string (tx t)) : (execOp a.eval o).run P w = .ok (.value (.bool (lt' s t))) w := by
  have e : Op.bytesLess (tx s).toList (tx t).toList = lt' s t := by rw [tx_list, tx_list]; rfl
  unfold execOp
  simp only [ho, hx, hy]
  generalize a.eval = f at *
  go_simp
theorem t_geq (s t : List UInt8) (ho : o.op = .binOp .geq T x y T') (hx : a.eval x = .string (tx s)) (hy : a.eval y = .string (tx t)) : (execOp a.eval o).run P w = .ok (.value (.bool (!lt' s t))) w := by
  have e : Op.bytesLess (tx s).toList (tx t).toList = lt' s t := by rw [tx_list, tx_list]; rfl
  unfold execOp
  simp only [ho, hx, hy]
  generalize a.eval = f at *
  go_simp
theorem t_leq (s t : List UInt8) (ho : o.op = .binOp .leq T x y T') (hx : a.eval x = .string (tx s)) (hy : a.eval y = .string (tx t)) : (execOp a.eval o).run P w = .ok (.value (.bool (lt' s t || decide (s = t)))) w := by
  have e : Op.bytesLess (tx s).toList (tx t).toList = lt' s t := by rw [tx_list, tx_list]; rfl
  have e2 : ((tx s).toList == (tx t).toList) = decide (s = t) := by rw [tx_list, tx_list, Bool.eq_iff_iff, beq_iff_eq, decide_eq_true_iff]
  unfold execOp
  simp only [ho, hx, hy]
  generalize a.eval = f at *
  go_simp
end

/-! ### Slices that are read -/
/-- The slice v, of elements of so many cells each, reads as xs. -/
def Rd (W : World) (v : Value) (n size : Nat) (xs : List Value) : Prop :=
  xs.length = n * size ∧ ((n = 0 ∧ ∃ ao c, v = .slice ao 0 c) ∨ ∃ g o c, v = .slice (some ⟨g, o, none⟩) n c ∧ (∀ j u, xs[j]? = some u → W.cell? ⟨g, o + j, none⟩ = some u) ∧ n ≤ c)
section
variable {P : Program} {W W' : World} {v : Value} {n size : Nat} {xs : List Value} {e : TypeId}
theorem Rd.below (h : Rd W v n size xs) (hb : Below W.heap.size W W') : Rd W' v n size xs := by
  refine ⟨h.1, h.2.imp id ?_⟩
  rintro ⟨g, o, c, rfl, hc, hnc⟩
  exact ⟨g, o, c, rfl, fun j u hu => (hb.cell (p := ⟨g, o + j, none⟩) (block_lt_of_cell (hc j u hu))).trans (hc j u hu), hnc⟩
theorem Rd.drew (h : Rd W v n size xs) : Rd W.drew v n size xs := h
theorem Rd.of_row (h : W.ownsRow 0 e size v n xs) : Rd W v n size xs := by
  refine ⟨h.1, ?_⟩
  rcases h.2 with hn | ⟨g, cap, cur, rfl, _, _, hnc, _⟩
  · exact .inl ⟨hn.2, _, _, hn.1⟩
  · refine .inr ⟨g, 0, cap, rfl, fun j u hu => ?_, hnc⟩
    have := h.cells (g := g) rfl j u hu
    rw [add_lit] at this
    exact this
theorem Rd.nil (W : World) (size : Nat) : Rd W (.slice none 0 0) 0 size [] := ⟨by simp, .inl ⟨rfl, _, _, rfl⟩⟩
variable {o : Oper} {a : Act} {x y : Operand} {T : TypeId} {k : IntKind}
end

/-! ### Rows of bytes -/
theorem r_stringR {P : Program} {o : Oper} {a : Act} {w : World} {x : Operand} {T e T' : TypeId} {v : Value} {n : Nat} (l : List UInt8) (h : Rd w v n 1 (l.map bv)) (hs : P.underlying T = some (.slice e)) (he : P.underlying e = some (.int .u8)) (hd : P.underlying T' = some .string)
    (ho : o.op = .convert T T' x) (hx : a.eval x = v) : (execOp a.eval o).run P w = .ok (.value (.string (tx l))) w := by
  have hn : l.length = n := by have := h.1; simpa using this
  rcases h.2 with ⟨h0, ao, c', rfl⟩ | ⟨g, i, c', rfl, hc, _⟩
  · have hl : l = [] := List.eq_nil_of_length_eq_zero (by omega)
    subst hl
    cases ao with
    | none =>
      have h1 := Lib.run_convert_nil_bytes (P := P) w T T' e c' hs he hd
      unfold execOp
      simp only [ho, hx]
      simp only [Sem.run_bind, h1]
      rfl
    | some g =>
      have h1 := run_convert_bytes_back (P := P) w T T' e g c' [] hs he hd (fun j hj => absurd hj (Nat.not_lt_zero _))
      rw [List.length_nil] at h1
      unfold execOp
      simp only [ho, hx]
      simp only [Sem.run_bind, h1]
      rfl
  · have h1 := run_convert_bytes_back (P := P) w T T' e ⟨g, i, none⟩ c' l hs he hd (fun j hj => by
      rw [add_lit]
      exact hc j _ (by simp [hj, bv]))
    rw [hn] at h1
    unfold execOp
    simp only [ho, hx]
    simp only [Sem.run_bind, h1]
    rfl
/-! ### Whole numbers, below nought too -/
section
variable {P : Program} {o : Oper} {a : Act} {w : World} {x y : Operand} {T T' : TypeId} {k yk : IntKind}
end

/-! ### Two ways on; rows -/
theorem Blk.news {w : World} {g : Nat} {c : Array Value} {T : TypeId} (h : Blk w g c T) : ∀ (j : Nat) (u : Value), c.toList[j]? = some u → w.cell? ((⟨g, 0, none⟩ : Addr).add j) = some u := by
  intro j u hu
  rw [add_lit, h.cell, Nat.zero_add]
  simpa using hu
theorem own_base {W : World} {b : Nat} {v : Value} {n : Nat} {xs : List Value} {e : TypeId} {size : Nat} (h : W.ownsRow 0 e size v n xs) (hb : ∀ g, v.ownBlock = some g → b ≤ g) : W.ownsRow b e size v n xs := by
  refine ⟨h.1, ?_⟩
  rcases h.2 with hn | ⟨g, cap, cur, rfl, _, rest⟩
  · exact .inl hn
  · exact .inr ⟨g, cap, cur, rfl, hb g rfl, rest⟩
/-- What a call hands back: a row of its own. -/
theorem Mm.gives {S : Nat → Prop} {w W : World} {l : List Ent} (h : Mm none S w W l) (i : Nat) {v : Value} {n : Nat} {xs : List Value} {e : TypeId} {size : Nat} (hi : l[i]? = some (.row v n xs e size)) : W.ownsRow w.heap.size e size v n xs :=
  own_base (h.row i hi) (fun g hg => (h.low i _ g hi hg).elim id (fun e => by cases e))
/-- What a call hands back: the row that it was handed, changed. -/
theorem Mm.turned {S : Nat → Prop} {w W : World} {v v' : Value} {l : List Ent} (h : Mm v.ownBlock S w W l) {n : Nat} {xs : List Value} {e : TypeId} {size : Nat} (i : Nat) (hi : l[i]? = some (.row v' n xs e size)) : W.ownsRow 0 e size v' n xs ∧ (∀ g, v'.ownBlock = some g → v.ownBlock = some g ∨ w.heap.size ≤ g) :=
  ⟨h.row i hi, fun g hg => (h.low i _ g hi hg).symm⟩
theorem Rd.cells {W : World} {g o n c size : Nat} {xs : List Value} (h : Rd W (.slice (some ⟨g, o, none⟩) n c) n size xs) : ∀ (j : Nat) (u : Value), xs[j]? = some u → W.cell? ⟨g, o + j, none⟩ = some u := by
  rcases h.2 with ⟨h1, _⟩ | ⟨g', o', c', h1, hc, _⟩
  · intro j u hj
    have hl := h.1
    rw [h1, Nat.zero_mul] at hl
    rw [List.eq_nil_of_length_eq_zero hl] at hj
    cases hj
  · simp only [Value.slice.injEq, Option.some.injEq, Addr.mk.injEq, and_true, true_and] at h1
    obtain ⟨⟨rfl, rfl⟩, rfl⟩ := h1
    exact hc
theorem own_one {W : World} {b : Nat} {v : Value} {n : Nat} {xs : List Value} {e : TypeId} {size : Nat} (h : W.ownsRow b e size v n xs) : v.oneCell' = true := by
  rcases h.2 with ⟨rfl, _⟩ | ⟨g, cap, cur, rfl, _⟩ <;> rfl
theorem Rd.of_blk {W : World} {g : Nat} {c : Array Value} {T : TypeId} {n size cap : Nat} (h : Blk W g c T) (hl : c.size = n * size) (hcap : n ≤ cap) : Rd W (.slice (some ⟨g, 0, none⟩) n cap) n size c.toList :=
  ⟨by simpa using hl, .inr ⟨g, 0, cap, rfl, fun j u hu => by rw [h.cell, Nat.zero_add]; simpa using hu, hcap⟩⟩
/-! ### What is read, and goes on to be read -/
/-- The block of a slice that has elements. -/
def fp (v : Value) (xs : List Value) (g : Nat) : Prop := xs ≠ [] ∧ ∃ o n c, v = .slice (some ⟨g, o, none⟩) n c
theorem cell_same {W W' : World} {g j : Nat} (h : W'.heap[g]? = W.heap[g]?) : W'.cell? ⟨g, j, none⟩ = W.cell? ⟨g, j, none⟩ := by
  unfold World.cell?
  simp only [h]
theorem Seal.rd {W : World} {v : Value} {n size : Nat} {xs : List Value} (h : Rd W v n size xs) : Seal (fun W => Rd W v n size xs) (fp v xs) W := by
  refine ⟨fun g hg => ?_, h, fun W' hW => ⟨h.1, h.2.imp id ?_⟩⟩
  · obtain ⟨hx, o, n', c, rfl⟩ := hg
    have hn : n ≠ 0 := fun e => hx (List.eq_nil_of_length_eq_zero (by rw [h.1, e, Nat.zero_mul]))
    rcases h.2 with ⟨h0, _⟩ | ⟨g', o', c', e, hc, _⟩
    · exact absurd h0 hn
    · simp only [Value.slice.injEq, Option.some.injEq, Addr.mk.injEq] at e
      obtain ⟨⟨rfl, rfl, _⟩, _⟩ := e
      obtain ⟨u, rest, rfl⟩ := List.exists_cons_of_ne_nil hx
      exact block_lt_of_cell (hc 0 u rfl)
  · rintro ⟨g, o, c, rfl, hc, hnc⟩
    refine ⟨g, o, c, rfl, fun j u hu => ?_, hnc⟩
    have hx : xs ≠ [] := fun e => by rw [e] at hu; cases hu
    rw [cell_same (hW g ⟨hx, o, _, _, rfl⟩)]
    exact hc j u hu
theorem Seal.row {W : World} {v : Value} {n : Nat} {xs : List Value} {e : TypeId} {size : Nat} (h : W.ownsRow 0 e size v n xs) : Seal (fun W => Rd W v n size xs) (fp v xs) W := Seal.rd (Rd.of_row h)
section
variable {S : Nat → Prop} {r : Option Nat} {w W : World} {l : List Ent} {v : Value} {n : Nat} {xs : List Value} {e : TypeId} {size : Nat}
end
end Go.Proofs.YtjbnmeofjiokeaaGreatDoor.Mem
