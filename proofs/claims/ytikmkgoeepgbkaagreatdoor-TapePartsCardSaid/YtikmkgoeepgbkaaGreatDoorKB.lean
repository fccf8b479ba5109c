/- Programs as they go, over plain values: what a value is, what stands for it in memory. -/
import Derived.Test.YtikmkgoeepgbkaaGreatDoorKA
import Derived.Laws.StructEq
import Derived.Stop.IfaceNil
import Derived.Lib.SliceRun
import Derived.Laws.RangeString
import Derived.Laws.Build
set_option linter.all false
namespace Go.Proofs.YtikmkgoeepgbkaaGreatDoor.Ev
open Go.RowKit
open Go.Proofs.YtikmkgoeepgbkaaGreatDoor.Mem

/-- Values: numbers, texts, lists that are read, places elsewhere, structs, tuples, own blocks and rows. -/
inductive V : Type 1
  | j
  | b (x : Bool)
  | n (k : IntKind) (x : Int)
  | s (l : List UInt8)
  | nl
  | sl (z : Nat) (α : Type) (d : α) (l : List α) (e : α → V)
  | px (v : V)
  | ag (l : List V)
  | tp (l : List V)
  | p (id off : Nat)
  | pn
  | ow (id len : Nat)
  | pe (id z i off : Nat)
  | it (t : Nat) (v : V)
  | inil
  | fn (f : Nat)
  | gl (g o : Nat)

/-- The cells of a value. -/
def cs : V → List V
  | .ag l => l
  | v => [v]

mutual
/-- Does a value name that block? -/
def men : V → Nat → Bool
  | .p a _, i => a == i
  | .ow a _, i => a == i
  | .pe a _ _ _, i => a == i
  | .ag l, i => menL l i
  | .tp l, i => menL l i
  | .it _ v, i => men v i
  | _, _ => false
def menL : List V → Nat → Bool
  | [], _ => false
  | v :: l, i => men v i || menL l i
end
theorem menL_of {l : List V} {q : Nat} {y : V} {i : Nat} (h : l[q]? = some y) (hm : men y i = true) : menL l i = true := by
  induction l generalizing q with
  | nil => simp at h
  | cons a l ih =>
    cases q with
    | zero => simp at h; subst h; simp [menL, hm]
    | succ q => simp at h; simp [menL, ih h]

theorem men_cs {v : V} {q : Nat} {y : V} {i : Nat} (h : (cs v)[q]? = some y) (hm : men y i = true) : men v i = true := by
  cases v with
  | ag l => simp only [men]; exact menL_of h hm
  | _ =>
    cases q with
    | zero => simp only [cs, List.getElem?_cons_zero, Option.some.injEq] at h; rw [h]; exact hm
    | succ q => simp [cs] at h
theorem men_cs' {v : V} (hv : ∀ k, men v k = false) {q : Nat} {y : V} (h : (cs v)[q]? = some y) (k : Nat) : men y k = false := by
  cases e : men y k with
  | false => rfl
  | true => have := men_cs h e; rw [hv k] at this; cases this
/-- Where own blocks stand, and the values of own rows. -/
abbrev Gm := Nat → Nat × Value
def G0 : Gm := fun _ => (0, .nilFunc)

inductive Rep (F : Nat → Prop) (W : World) : Gm → V → Value → Prop
  | j (G v) : Rep F W G .j v
  | b (G x) : Rep F W G (.b x) (.bool x)
  | n (G k x) : Rep F W G (.n k x) (.int k x)
  | s (G l) : Rep F W G (.s l) (.string (tx l))
  | nl (G) : Rep F W G .nl (.slice none 0 0)
  | sl0 (G z α d e ao c) : Rep F W G (.sl z α d [] e) (.slice ao 0 c)
  | sl (G z) (α : Type) (d : α) (l : List α) (e : α → V) (g o c : Nat) (u : Nat → Nat → Value) (hg : F g) (hc : l.length ≤ c) (hn : ∀ (i : Nat) (x : α), l[i]? = some x → ∀ k, men (e x) k = false)
      (hz : ∀ (i : Nat) (x : α), l[i]? = some x → (cs (e x)).length = z)
      (hu : ∀ (i : Nat) (x : α) (q : Nat) (y : V), l[i]? = some x → (cs (e x))[q]? = some y → W.cell? ⟨g, o + (i * z + q), none⟩ = some (u i q))
      (hr : ∀ (i : Nat) (x : α) (q : Nat) (y : V), l[i]? = some x → (cs (e x))[q]? = some y → Rep F W G0 y (u i q)) : Rep F W G (.sl z α d l e) (.slice (some ⟨g, o, none⟩) l.length c)
  | px (G) (v : V) (g o : Nat) (u : Nat → Value) (hg : F g) (hn : ∀ k, men v k = false) (hu : ∀ (q : Nat) (y : V), (cs v)[q]? = some y → W.cell? ⟨g, o + q, none⟩ = some (u q)) (hr : ∀ (q : Nat) (y : V), (cs v)[q]? = some y → Rep F W G0 y (u q)) : Rep F W G (.px v) (.pointer (some ⟨g, o, none⟩))
  | ag (G) (l : List V) (vs : Array Value) (hl : vs.size = l.length) (hr : ∀ (q : Nat) (y : V) (v : Value), l[q]? = some y → vs[q]? = some v → Rep F W G y v) : Rep F W G (.ag l) (.agg vs)
  | tp (G) (l : List V) (vs : Array Value) (hl : vs.size = l.length) (hr : ∀ (q : Nat) (y : V) (v : Value), l[q]? = some y → vs[q]? = some v → Rep F W G y v) : Rep F W G (.tp l) (.tuple vs)
  | p (G : Gm) (id off) : Rep F W G (.p id off) (.pointer (some ⟨(G id).1, off, none⟩))
  | pn (G) : Rep F W G .pn (.pointer none)
  | ow (G : Gm) (id len ao c) (h : (G id).2 = .slice ao len c) : Rep F W G (.ow id len) (.slice ao len c)
  | pe (G : Gm) (id z i off) : Rep F W G (.pe id z i off) (.pointer (some ⟨(G id).1, i * z + off, none⟩))
  | it (G t v x) (h : Rep F W G v x) : Rep F W G (.it t v) (.iface t x)
  | inil (G) : Rep F W G .inil .nilIface
  | fn (G f) : Rep F W G (.fn f) (.func (.func f) #[] #[])
  | gl (G g o) : Rep F W G (.gl g o) (.pointer (some ⟨g, o, none⟩))

section
variable {F F' : Nat → Prop} {W W' : World} {G G' : Gm} {v : V} {x : Value}
theorem cell_heap {a : Addr} (h : W'.heap[a.block]? = W.heap[a.block]?) : W'.cell? a = W.cell? a := by simp only [World.cell?, h]
theorem Rep.keep (h : Rep F W G v x) (hk : ∀ g, F g → W'.heap[g]? = W.heap[g]?) : Rep F W' G v x := by
  induction h with
  | sl G z α d l e g o c u hg hc hn hz hu hr ih => exact .sl G z α d l e g o c u hg hc hn hz (fun i x q y h1 h2 => (cell_heap (hk g hg)).trans (hu i x q y h1 h2)) ih
  | px G v g o u hg hn hu hr ih => exact .px G v g o u hg hn (fun q y h => (cell_heap (hk g hg)).trans (hu q y h)) ih
  | ag G l vs hl hr ih => exact .ag G l vs hl ih
  | tp G l vs hl hr ih => exact .tp G l vs hl ih
  | it G t v x h ih => exact .it G t v x ih
  | ow G id len ao c h => exact .ow G id len ao c h
  | _ => constructor
theorem Rep.wide (h : Rep F W G v x) (hk : ∀ g, F g → F' g) : Rep F' W G v x := by
  induction h with
  | sl G z α d l e g o c u hg hc hn hz hu hr ih => exact .sl G z α d l e g o c u (hk g hg) hc hn hz hu ih
  | px G v g o u hg hn hu hr ih => exact .px G v g o u (hk g hg) hn hu ih
  | ag G l vs hl hr ih => exact .ag G l vs hl ih
  | tp G l vs hl hr ih => exact .tp G l vs hl ih
  | it G t v x h ih => exact .it G t v x ih
  | ow G id len ao c h => exact .ow G id len ao c h
  | _ => constructor
theorem Rep.ren (h : Rep F W G v x) (hk : ∀ i, men v i = true → G' i = G i) : Rep F W G' v x := by
  induction h generalizing G' with
  | sl G z α d l e g o c u hg hc hn hz hu hr ih => exact .sl _ z α d l e g o c u hg hc hn hz hu hr
  | px G v g o u hg hn hu hr ih => exact .px _ v g o u hg hn hu hr
  | ag G l vs hl hr ih => exact .ag _ l vs hl fun q y v h1 h2 => ih q y v h1 h2 fun i hi => hk i (by simp only [men]; exact menL_of h1 hi)
  | tp G l vs hl hr ih => exact .tp _ l vs hl fun q y v h1 h2 => ih q y v h1 h2 fun i hi => hk i (by simp only [men]; exact menL_of h1 hi)
  | it G t v x h ih => exact .it _ t v x (ih fun i hi => hk i (by simpa only [men] using hi))
  | p G id off => have := hk id (by simp [men]); rw [← this]; exact .p _ _ _
  | pe G id z i off => have := hk id (by simp [men]); rw [← this]; exact .pe _ _ _ _ _
  | ow G id len ao c h => have := hk id (by simp [men]); exact .ow _ _ _ _ _ (by rw [this]; exact h)
  | _ => constructor
end

/-- Own blocks: variables, and rows that may grow. -/
inductive Bk : Type 1
  | cells (T : Nat) (l : List V)
  | row (T z : Nat) (α : Type) (d : α) (l : List α) (e : α → V) (c : V → α)
  | itr (l : List UInt8) (pos : Nat)

def Bk.ob (G : Gm) (i : Nat) : Bk → Nat → Prop
  | .cells _ _, g => g = (G i).1
  | .row _ _ _ _ _ _ _, g => (G i).2.ownBlock = some g
  | .itr _ _, g => g = (G i).1

def BkRep (F : Nat → Prop) (W : World) (G : Gm) (i : Nat) : Bk → Prop
  | .cells T l => ∃ c, Blk W (G i).1 c T ∧ c.size = l.length ∧ ∀ (q : Nat) (y : V) (v : Value), l[q]? = some y → c[q]? = some v → Rep F W G y v
  | .row T z α _ l e _ => ∃ xs, W.ownsRow 0 T z (G i).2 l.length xs ∧ (∀ g, (G i).2.ownBlock = some g → g = (G i).1) ∧
      ∀ (q : Nat) (x : α), l[q]? = some x → (cs (e x)).length = z ∧ (∀ k, men (e x) k = false) ∧ ∀ (k : Nat) (y : V), (cs (e x))[k]? = some y → ∃ v, xs[q * z + k]? = some v ∧ Rep F W G0 y v
  | .itr l p => W.heap[(G i).1]? = some (.stringIter (tx l) p)

/-- Slots, own blocks, and which blocks' names have been given. -/
structure St : Type 1 where
  sl : Nat → V
  bk : Nat → Option Bk
  al : Nat → Bool
def Bk.men : Bk → Nat → Bool
  | .cells _ l, i => menL l i
  | .row _ _ _ _ _ _ _, _ => false
  | .itr _ _, _ => false

/-- Where a call began: the world, the blocks that were there and may be written, the world whose tables hold. -/
structure Bs where
  w : World
  o : Nat → Prop
  t : World
  ht : Below t.heap.size t w
  ho : ∀ g, o g → t.heap.size ≤ g
  fx : Nat → Option (Nat × Value)
def Bs.may (w0 : Bs) (g : Nat) : Prop := w0.w.heap.size ≤ g ∨ w0.o g
def Bs.of (W : World) : Bs := ⟨W, fun _ => False, W, Below.refl _ _, fun _ h => h.elim, fun _ => none⟩
/-- Nothing has turned but what may be written. -/
structure BelX (w0 : Bs) (w w' : World) : Prop where
  os : w'.os = w.os
  tape : w'.tape = w.tape
  output : w'.output = w.output
  size : w.heap.size ≤ w'.heap.size
  block : ∀ k, ¬ w0.may k → w'.heap[k]? = w.heap[k]?
section
variable {w0 : Bs} {a b c : World}
theorem BelX.refl (w0 : Bs) (w : World) : BelX w0 w w := ⟨rfl, rfl, rfl, Nat.le_refl _, fun _ _ => rfl⟩
theorem BelX.trans (h : BelX w0 a b) (k : BelX w0 b c) : BelX w0 a c :=
  ⟨k.os.trans h.os, k.tape.trans h.tape, k.output.trans h.output, Nat.le_trans h.size k.size, fun i hi => (k.block i hi).trans (h.block i hi)⟩
theorem BelX.of {n : Nat} (h : Below n a b) (hn : w0.w.heap.size ≤ n) : BelX w0 a b :=
  ⟨h.os, h.tape, h.output, h.size, fun k hk => h.block k (Nat.lt_of_lt_of_le (Nat.lt_of_not_le fun e => hk (.inl e)) hn)⟩
theorem BelX.grown {row : Option Nat} (hg : a.grownBy b row) (hB : w0.w.heap.size ≤ a.heap.size) (hr : ∀ k, row = some k → w0.may k) : BelX w0 a b :=
  ⟨hg.os, hg.tape, hg.output, hg.size, fun k hk => hg.block k (Nat.lt_of_lt_of_le (Nat.lt_of_not_le fun e => hk (.inl e)) hB) (fun e => hk (hr k e.symm))⟩
theorem BelX.top (h : BelX w0 w0.w a) : Below w0.t.heap.size w0.t a := by
  have hs := w0.ht.size
  refine w0.ht.trans ⟨h.os, h.tape, h.output, h.size, fun k hk => h.block k fun hm => ?_⟩
  rcases hm with hm | hm
  · omega
  · have := w0.ho k hm; omega
theorem BelX.plain {W : World} (h : BelX (Bs.of W) W a) : Below W.heap.size W a :=
  ⟨h.os, h.tape, h.output, h.size, fun k hk => h.block k fun hm => by
    rcases hm with hm | hm
    · exact absurd (show W.heap.size ≤ k from hm) (by omega)
    · exact hm⟩
theorem may_of {W : World} {g : Nat} (h : (Bs.of W).may g) : W.heap.size ≤ g := h.elim (fun h => h) fun h => h.elim
end
/-- The state stands for what is in the slots and in memory. -/
structure RelG (w0 : Bs) (S : Nat → Prop) (m : Nat) (G : Gm) (F : Nat → Prop) (σ : St) (a : Act) (W : World) : Prop where
  below : BelX w0 w0.w W
  size : a.tmps.size = m
  slot : ∀ t, Rep F W G (σ.sl t) (a.tmps.getD t undef)
  blk : ∀ i b, σ.bk i = some b → BkRep F W G i b
  own : ∀ i b g, σ.bk i = some b → b.ob G i g → w0.may g ∧ g < W.heap.size ∧ ¬ F g
  apart : ∀ i i' b b' g, i ≠ i' → σ.bk i = some b → σ.bk i' = some b' → b.ob G i g → ¬ b'.ob G i' g
  fin : ∀ g, F g → g < W.heap.size ∧ (w0.may g ∨ S g)
  defers : a.defers = []
  wf : ∀ t i, men (σ.sl t) i = true → σ.al i = true
  wfb : ∀ i b, σ.bk i = some b → σ.al i = true ∧ ∀ k, b.men k = true → σ.al k = true
  fix : ∀ i A, w0.fx i = some A → 1000000000 ≤ i ∧ G i = A
  mlt : m ≤ 1000000000
def Rel (w0 : Bs) (S : Nat → Prop) (m : Nat) (σ : St) (a : Act) (W : World) : Prop := ∃ G F, RelG w0 S m G F σ a W

def St.put (σ : St) (d : Nat) (v : V) : St := { σ with sl := fun t => if t = d then v else σ.sl t }
def St.putO (σ : St) (d : Option Nat) (v : V) : St := match d with
  | some d => σ.put d v
  | none => σ

section
variable {w0 : Bs} {S : Nat → Prop} {m : Nat} {G : Gm} {F : Nat → Prop} {σ : St} {a : Act} {W W' : World} {v : V} {x : Value}
theorem RelG.put (h : RelG w0 S m G F σ a W) (hr : Rep F W G v x) (hm : ∀ i, men v i = true → σ.al i = true) (d : Nat) (hd : d < m) : RelG w0 S m G F (σ.put d v) (a.put (some d) x) W := by
  refine ⟨h.below, ?_, fun t => ?_, h.blk, h.own, h.apart, h.fin, h.defers, fun t i hi => ?_, h.wfb, h.fix, h.mlt⟩
  · simp [Act.put, h.size]
  · simp only [St.put, Act.put]
    by_cases e : t = d
    · subst e
      rw [if_pos rfl]
      simpa [Array.getD_eq_getD_getElem?, h.size, hd] using hr
    · rw [if_neg e]
      have := h.slot t
      simpa [Array.getD_eq_getD_getElem?, Array.getElem?_setIfInBounds_ne (Ne.symm e)] using this
  · simp only [St.put] at hi ⊢
    by_cases e : t = d
    · rw [if_pos e] at hi; exact hm i hi
    · rw [if_neg e] at hi; exact h.wf t i hi
theorem RelG.putJ (h : RelG w0 S m G F σ a W) (d : Option Nat) (x : Value) (hd : ∀ t, d = some t → t < m) : RelG w0 S m G F (σ.putO d .j) (a.put d x) W := by
  cases d with
  | none => exact h
  | some d => exact h.put (.j _ _) (fun i hi => by simp [men] at hi) d (hd d rfl)

/-- A constant. -/
def ofV : Value → V
  | .bool x => .b x
  | .int k x => .n k x
  | .string s => .s (bl s)
  | .slice none 0 0 => .nl
  | .pointer none => .pn
  | .nilIface => .inil
  | _ => .j
theorem ofV_rep (x : Value) : Rep F W G (ofV x) x := by
  unfold ofV
  split
  all_goals first
    | exact .b _ _
    | exact .n _ _ _
    | exact .nl _
    | exact .pn _
    | exact .inil _
    | exact .j _ _
    | (rename_i s; have := Rep.s (F := F) (W := W) G (bl s); rwa [tx_bl] at this)
def St.rd (σ : St) : Operand → V
  | .tmp t => σ.sl t
  | .const v => ofV v
  | .global g => .gl g 0
  | .func f => .fn f
theorem ofV_men (x : Value) (i : Nat) : men (ofV x) i = false := by
  unfold ofV
  split <;> rfl
theorem RelG.rd_men (h : RelG w0 S m G F σ a W) (o : Operand) (i : Nat) (hi : men (σ.rd o) i = true) : σ.al i = true := by
  cases o with
  | tmp t => exact h.wf t i hi
  | const v => simp [St.rd, ofV_men] at hi
  | global g => simp [St.rd, men] at hi
  | func f => simp [St.rd, men] at hi
theorem RelG.rd (h : RelG w0 S m G F σ a W) (o : Operand) : Rep F W G (σ.rd o) (a.eval o) := by
  cases o with
  | tmp t => exact h.slot t
  | const v => exact ofV_rep v
  | global g => exact .gl _ _ _
  | func f => exact .fn _ _
end
end Go.Proofs.YtikmkgoeepgbkaaGreatDoor.Ev
namespace Go.Proofs.YtikmkgoeepgbkaaGreatDoor.Ev
open Go.RowKit
open Go.Proofs.YtikmkgoeepgbkaaGreatDoor.Mem

section
variable {F : Nat → Prop} {W : World} {G : Gm} {x : Value}
theorem Rep.n_inv {k : IntKind} {p : Int} (h : Rep F W G (.n k p) x) : x = .int k p := by cases h; rfl
theorem Rep.b_inv {p : Bool} (h : Rep F W G (.b p) x) : x = .bool p := by cases h; rfl
theorem Rep.s_inv {l : List UInt8} (h : Rep F W G (.s l) x) : x = .string (tx l) := by cases h; rfl
theorem Rep.nl_inv (h : Rep F W G .nl x) : x = .slice none 0 0 := by cases h; rfl
theorem Rep.tp_inv {l : List V} (h : Rep F W G (.tp l) x) : ∃ vs : Array Value, x = .tuple vs ∧ vs.size = l.length ∧ ∀ (q : Nat) (y : V) (v : Value), l[q]? = some y → vs[q]? = some v → Rep F W G y v := by
  cases h with
  | tp _ _ vs hl hr => exact ⟨vs, rfl, hl, hr⟩
theorem Rep.ag_inv {l : List V} (h : Rep F W G (.ag l) x) : ∃ vs : Array Value, x = .agg vs ∧ vs.size = l.length ∧ ∀ (q : Nat) (y : V) (v : Value), l[q]? = some y → vs[q]? = some v → Rep F W G y v := by
  cases h with
  | ag _ _ vs hl hr => exact ⟨vs, rfl, hl, hr⟩
theorem Rep.p_inv {i o : Nat} (h : Rep F W G (.p i o) x) : x = .pointer (some ⟨(G i).1, o, none⟩) := by cases h; rfl
theorem Rep.gl_inv {g o : Nat} (h : Rep F W G (.gl g o) x) : x = .pointer (some ⟨g, o, none⟩) := by cases h; rfl
theorem Rep.pe_inv {i z q o : Nat} (h : Rep F W G (.pe i z q o) x) : x = .pointer (some ⟨(G i).1, q * z + o, none⟩) := by cases h; rfl
theorem Rep.ow_inv {i n : Nat} (h : Rep F W G (.ow i n) x) : x = (G i).2 ∧ ∃ ao c, x = .slice ao n c := by
  cases h with
  | ow _ _ _ ao c h => exact ⟨h.symm, ao, c, rfl⟩
theorem Rep.sl_inv {z : Nat} {α : Type} {d : α} {l : List α} {e : α → V} (h : Rep F W G (.sl z α d l e) x) :
    (∃ ao c, l = [] ∧ x = .slice ao 0 c) ∨ ∃ g o c, ∃ u : Nat → Nat → Value, x = .slice (some ⟨g, o, none⟩) l.length c ∧ F g ∧ l.length ≤ c ∧ (∀ (i : Nat) (x : α), l[i]? = some x → ∀ k, men (e x) k = false) ∧ (∀ (i : Nat) (x : α), l[i]? = some x → (cs (e x)).length = z) ∧
      (∀ (i : Nat) (x : α) (q : Nat) (y : V), l[i]? = some x → (cs (e x))[q]? = some y → W.cell? ⟨g, o + (i * z + q), none⟩ = some (u i q)) ∧ ∀ (i : Nat) (x : α) (q : Nat) (y : V), l[i]? = some x → (cs (e x))[q]? = some y → Rep F W G0 y (u i q) := by
  cases h with
  | sl0 _ _ _ _ _ ao c => exact .inl ⟨ao, c, rfl, rfl⟩
  | sl _ _ _ _ _ _ g o c u hg hc hn hz hu hr => exact .inr ⟨g, o, c, u, rfl, hg, hc, hn, hz, hu, hr⟩
theorem Rep.px_inv {v : V} (h : Rep F W G (.px v) x) : ∃ g o, ∃ u : Nat → Value, x = .pointer (some ⟨g, o, none⟩) ∧ F g ∧ (∀ k, men v k = false) ∧ (∀ (q : Nat) (y : V), (cs v)[q]? = some y → W.cell? ⟨g, o + q, none⟩ = some (u q)) ∧ ∀ (q : Nat) (y : V), (cs v)[q]? = some y → Rep F W G0 y (u q) := by
  cases h with
  | px _ _ g o u hg hn hu hr => exact ⟨g, o, u, rfl, hg, hn, hu, hr⟩
end

/-! ### Types -/
def kd (P : Program) (T : Nat) : TypeDesc := (P.underlying T).getD .invalid
def sz (P : Program) (T : Nat) : Option Nat := (P.info? T).map (·.size)
def agT (P : Program) (T : Nat) : Bool := !lone1 (kd P T)
/-- The kind of an int's type. -/
def ik (P : Program) (T : Nat) : Option IntKind := match kd P T with
  | .int k => some k
  | _ => none
/-- Of what a slice's type is. -/
def sle (P : Program) (T : Nat) : Option Nat := match kd P T with
  | .slice e => some e
  | _ => none
/-- How long an array's type is, and of what. -/
def arT (P : Program) (T : Nat) : Option (Nat × Nat) := match kd P T with
  | .array n e => some (n, e)
  | _ => none
def strT (P : Program) (T : Nat) : Bool := match kd P T with
  | .string => true
  | _ => false
/-- Where a field lies, whether it has parts, and how many cells. -/
def fld (P : Program) (T i : Nat) : Option (Nat × Bool × Nat) := match kd P T with
  | .struct fs => (fs[i]?).bind fun f => match P.underlying f.type, P.info? f.type with
    | some d, some ti => some (f.offset, !lone1 d, ti.size)
    | _, _ => none
  | _ => none

/-! ### Values of two -/
def vBin (op : BinOp) (x y : V) (K : V → Prop) : Prop := match op, x, y with
  | .add, .n k p, .n k' q => k = k' ∧ K (.n k (k.wrap (p + q)))
  | .sub, .n k p, .n k' q => k = k' ∧ K (.n k (k.wrap (p - q)))
  | .mul, .n k p, .n k' q => k = k' ∧ K (.n k (k.wrap (p * q)))
  | .quo, .n k p, .n k' q => (k = k' ∧ q ≠ 0) ∧ K (.n k (k.wrap (p.tdiv q)))
  | .rem, .n k p, .n k' q => (k = k' ∧ q ≠ 0) ∧ K (.n k (p.tmod q))
  | .eql, .n k p, .n k' q => k = k' ∧ K (.b (decide (p = q)))
  | .neq, .n k p, .n k' q => k = k' ∧ K (.b (decide (p ≠ q)))
  | .lss, .n k p, .n k' q => k = k' ∧ K (.b (decide (p < q)))
  | .leq, .n k p, .n k' q => k = k' ∧ K (.b (decide (p ≤ q)))
  | .gtr, .n k p, .n k' q => k = k' ∧ K (.b (decide (q < p)))
  | .geq, .n k p, .n k' q => k = k' ∧ K (.b (decide (q ≤ p)))
  | .shl, .n k p, .n _ q => 0 ≤ q ∧ K (.n k (k.wrap (p * 2 ^ (min q.toNat k.bits))))
  | .shr, .n k p, .n _ q => 0 ≤ q ∧ K (.n k (p.fdiv (2 ^ (min q.toNat k.bits))))
  | .and, .n k p, .n k' q => k = k' ∧ K (.n k (k.wrap (BitVec.ofInt k.bits p &&& BitVec.ofInt k.bits q).toNat))
  | .or, .n k p, .n k' q => k = k' ∧ K (.n k (k.wrap (BitVec.ofInt k.bits p ||| BitVec.ofInt k.bits q).toNat))
  | .xor, .n k p, .n k' q => k = k' ∧ K (.n k (k.wrap (BitVec.ofInt k.bits p ^^^ BitVec.ofInt k.bits q).toNat))
  | .add, .s p, .s q => p.length + q.length ≤ 9223372036854775807 ∧ K (.s (p ++ q))
  | .eql, .s p, .s q => K (.b (decide (p = q)))
  | .neq, .s p, .s q => K (.b (decide (p ≠ q)))
  | .lss, .s p, .s q => K (.b (lt' p q))
  | .leq, .s p, .s q => K (.b (lt' p q || decide (p = q)))
  | .geq, .s p, .s q => K (.b (!lt' p q))
  | _, _, _ => False

/-- What an operation gives, and that it stands for it. -/
def Yd (P : Program) (al : Nat → Bool) (F : Nat → Prop) (W : World) (G : Gm) (K : V → Prop) (r : Result Next) : Prop :=
  ∃ v x, K v ∧ r = .ok (.value x) W ∧ Rep F W G v x ∧ ∀ i, men v i = true → al i = true

section
variable {P : Program} {o : Oper} {a : Act} {W : World} {x y : Operand} {T T' : Nat}
theorem run_int (op : BinOp) {k : IntKind} {p q : Int} {v : Value} (ho : o.op = .binOp op T x y T') (hx : a.eval x = .int k p) (hy : a.eval y = .int k q) (hv : (binOp op T (.int k p) (.int k q)).run P W = .ok v W) : (execOp a.eval o).run P W = .ok (.value v) W := by
  unfold execOp
  simp only [ho, hx, hy]
  have hg : (eqGuard op T x y (.int k p) (.int k q)).run P W = .ok () W := by
    cases op <;> rfl
  simp only [Sem.run_bind, hg, Result.andThen_ok, hv]
  rfl
theorem run_sh (op : BinOp) {k k' : IntKind} {p q : Int} {v : Value} (hop : op = .shl ∨ op = .shr) (ho : o.op = .binOp op T x y T') (hx : a.eval x = .int k p) (hy : a.eval y = .int k' q) (hv : (Op.shift op k p k' q).run P W = .ok v W) : (execOp a.eval o).run P W = .ok (.value v) W := by
  unfold execOp
  simp only [ho, hx, hy]
  have hg : (eqGuard op T x y (.int k p) (.int k' q)).run P W = .ok () W := by
    rcases hop with rfl | rfl <;> rfl
  have hb : binOp op T (.int k p) (.int k' q) = Op.shift op k p k' q := by rcases hop with rfl | rfl <;> rfl
  simp only [Sem.run_bind, hg, Result.andThen_ok, hb, hv]
  rfl
end

section
variable {P : Program} {o : Oper} {w0 : Bs} {S : Nat → Prop} {m : Nat} {G : Gm} {F : Nat → Prop} {σ : St} {a : Act} {W : World} {K : V → Prop}
theorem yd_b {b : Bool} {al : Nat → Bool} (hK : K (.b b)) (hr : (execOp a.eval o).run P W = .ok (.value (.bool b)) W) : Yd P al F W G K ((execOp a.eval o).run P W) :=
  ⟨_, _, hK, hr, .b _ _, fun i hi => by simp [men] at hi⟩
theorem yd_n {k : IntKind} {p : Int} {al : Nat → Bool} (hK : K (.n k p)) (hr : (execOp a.eval o).run P W = .ok (.value (.int k p)) W) : Yd P al F W G K ((execOp a.eval o).run P W) :=
  ⟨_, _, hK, hr, .n _ _ _, fun i hi => by simp [men] at hi⟩
theorem yd_s {l : List UInt8} {al : Nat → Bool} (hK : K (.s l)) (hr : (execOp a.eval o).run P W = .ok (.value (.string (tx l))) W) : Yd P al F W G K ((execOp a.eval o).run P W) :=
  ⟨_, _, hK, hr, .s _ _, fun i hi => by simp [men] at hi⟩

theorem bin_ok {op : BinOp} {T T' : Nat} {x y : Operand} (ho : o.op = .binOp op T x y T') (hR : RelG w0 S m G F σ a W) (h : vBin op (σ.rd x) (σ.rd y) K) :
    Yd P σ.al F W G K ((execOp a.eval o).run P W) := by
  have hx := hR.rd x
  have hy := hR.rd y
  generalize σ.rd x = vx at *
  generalize σ.rd y = vy at *
  unfold vBin at h
  split at h
  case h_12 =>
    exact yd_n h.2 (run_sh _ (.inl rfl) ho hx.n_inv hy.n_inv (by simp only [Op.shift]; rw [if_neg (by omega)]; rfl))
  case h_13 =>
    exact yd_n h.2 (run_sh _ (.inr rfl) ho hx.n_inv hy.n_inv (by simp only [Op.shift]; rw [if_neg (by omega)]; rfl))
  case h_17 => exact yd_s h.2 (t_cat _ _ h.1 ho hx.s_inv hy.s_inv)
  case h_18 => exact yd_b h (t_eql _ _ ho hx.s_inv hy.s_inv)
  case h_19 => exact yd_b h (t_neq _ _ ho hx.s_inv hy.s_inv)
  case h_20 => exact yd_b h (t_lss _ _ ho hx.s_inv hy.s_inv)
  case h_21 => exact yd_b h (t_leq _ _ ho hx.s_inv hy.s_inv)
  case h_22 => exact yd_b h (t_geq _ _ ho hx.s_inv hy.s_inv)
  case h_23 => exact h.elim
  case h_4 =>
    obtain ⟨⟨rfl, h0⟩, hK⟩ := h
    exact yd_n hK (run_int _ ho hx.n_inv hy.n_inv (by simp only [binOp, ne_eq, not_true_eq_false, if_false, Op.intDiv]; rw [if_neg h0]; rfl))
  case h_5 =>
    obtain ⟨⟨rfl, h0⟩, hK⟩ := h
    exact yd_n hK (run_int _ ho hx.n_inv hy.n_inv (by simp only [binOp, ne_eq, not_true_eq_false, if_false, Op.intDiv]; rw [if_neg h0]; rfl))
  case h_6 =>
    obtain ⟨rfl, hK⟩ := h
    exact yd_b hK (run_int _ ho hx.n_inv hy.n_inv (by simp [binOp, Op.intCmp]; rfl))
  case h_7 =>
    obtain ⟨rfl, hK⟩ := h
    exact yd_b hK (run_int _ ho hx.n_inv hy.n_inv (by simp [binOp, Op.intCmp, bne]; rfl))
  all_goals
    obtain ⟨rfl, hK⟩ := h
    first
      | exact yd_n hK (run_int _ ho hx.n_inv hy.n_inv (by simp only [binOp, ne_eq, not_true_eq_false, if_false, Op.intArith, Op.intBits]; rfl))
      | exact yd_b hK (run_int _ ho hx.n_inv hy.n_inv (by simp only [binOp, ne_eq, not_true_eq_false, if_false, Op.intCmp]; rfl))
end
end Go.Proofs.YtikmkgoeepgbkaaGreatDoor.Ev
namespace Go.Proofs.YtikmkgoeepgbkaaGreatDoor.Ev
open Go.RowKit
open Go.Proofs.YtikmkgoeepgbkaaGreatDoor.Mem
set_option linter.unusedVariables false

def vUn (op : UnOp) (x : V) (K : V → Prop) : Prop := match op, x with
  | .not, .b p => K (.b (!p))
  | .neg, .n k p => K (.n k (k.wrap (0 - p)))
  | .xor, .n k p => K (.n k (k.wrap (BitVec.ofInt k.bits (if k.signed then -1 else k.max) ^^^ BitVec.ofInt k.bits p).toNat))
  | _, _ => False
def vPick (c x y : V) (K : V → Prop) : Prop := match c, x, y with
  | .b c, .b p, .b q => K (.b (bif c then p else q))
  | .b true, x, _ => K x
  | .b false, _, y => K y
  | _, _, _ => False
/-- A part of cells: of a struct's or an array's type, or one cell. -/
def partV (ag : Bool) (z off : Nat) (l : List V) : V := bif ag then .ag ((l.drop off).take z) else l.getD off .j
def eB (c : UInt8) : V := .n .u8 (c.toNat : Int)
/-- A rune's bytes. -/
def rune1 (r : Int) : List UInt8 := bl (Utf8.encode r)
/-- Conversions: the source's type, the kinds that the types have. -/
def vConv (P : Program) (T T' : Nat) (x : V) (K : V → Prop) : Prop := match x with
  | .n _ p => (∃ k, ik P T' = some k ∧ (P.underlying T).isSome = true ∧ K (.n k (k.wrap p))) ∨ ((ik P T' = none ∧ (ik P T).isSome = true ∧ strT P T' = true) ∧ K (.s (rune1 p)))
  | .s l => (strT P T' = true ∧ (P.underlying T).isSome = true) ∧ K (.s l)
  | .sl z α _ l e => ∃ c t, (z = 1 ∧ l.map e = c.map eB ∧ sle P T = some t ∧ ik P t = some .u8 ∧ strT P T' = true) ∧ K (.s c)
  | .nl => (∃ t, sle P T = some t ∧ ik P t = some .u8 ∧ strT P T' = true) ∧ K (.s [])
  | _ => False
def vExt (x : V) (i : Nat) (K : V → Prop) : Prop := match x with
  | .tp l => i < l.length ∧ K (l.getD i .j)
  | _ => False
def vField (P : Program) (T : Nat) (x : V) (i : Nat) (K : V → Prop) : Prop := match x with
  | .ag l => ∃ off g z, fld P T i = some (off, g, z) ∧ (off + z ≤ l.length ∧ (g = false → z = 1)) ∧ K (partV g z off l)
  | _ => False
def vIndex (P : Program) (T : Nat) (x i : V) (K : V → Prop) : Prop := match x, i with
  | .s l, .n _ i => (strT P T = true ∧ 0 ≤ i ∧ i < l.length) ∧ K (.n .u8 ((by' l i.toNat : Nat) : Int))
  | _, _ => False
def vLen (P : Program) (T : Nat) (x : V) (K : V → Prop) : Prop := match x with
  | .s l => strT P T = true ∧ K (.n .i64 ((l.length : Nat) : Int))
  | .sl _ _ _ l _ => (sle P T).isSome = true ∧ K (.n .i64 ((l.length : Nat) : Int))
  | .ow _ n => (sle P T).isSome = true ∧ K (.n .i64 ((n : Nat) : Int))
  | .nl => (sle P T).isSome = true ∧ K (.n .i64 0)
  | _ => False
/-- Cuts: of texts, and of slices that are read. -/
def vCut (P : Program) (T : Nat) (x : V) (lo hi : Option V) (K : V → Prop) : Prop := match x, lo, hi with
  | .s l, some (.n _ i), some (.n _ q) => (strT P T = true ∧ 0 ≤ i ∧ i ≤ q ∧ q ≤ l.length) ∧ K (.s ((l.take q.toNat).drop i.toNat))
  | .s l, none, some (.n _ q) => (strT P T = true ∧ 0 ≤ q ∧ q ≤ l.length) ∧ K (.s (l.take q.toNat))
  | .s l, some (.n _ i), none => (strT P T = true ∧ 0 ≤ i ∧ i ≤ l.length) ∧ K (.s (l.drop i.toNat))
  | .sl z α d l e, some (.n _ i), some (.n _ q) => ((sle P T).bind (sz P) = some z ∧ 0 ≤ i ∧ i ≤ q ∧ q ≤ l.length) ∧ K (.sl z α d ((l.take q.toNat).drop i.toNat) e)
  | .sl z α d l e, none, some (.n _ q) => ((sle P T).bind (sz P) = some z ∧ 0 ≤ q ∧ q ≤ l.length) ∧ K (.sl z α d (l.take q.toNat) e)
  | .sl z α d l e, some (.n _ i), none => ((sle P T).bind (sz P) = some z ∧ 0 ≤ i ∧ i ≤ l.length) ∧ K (.sl z α d (l.drop i.toNat) e)
  | _, _, _ => False
def cutV (v : Value) (l h size : Nat) : Value := match v with
  | .slice a _ c => .slice (if c = l then a else a.map (·.add (l * size))) (h - l) (c - l)
  | v => v

section
variable {P : Program} {o : Oper} {w0 : Bs} {S : Nat → Prop} {m : Nat} {G : Gm} {F : Nat → Prop} {σ : St} {a : Act} {W : World} {K : V → Prop} {x y : Operand} {T T' : Nat}
theorem kd_some {d : TypeDesc} (h : kd P T = d) (hd : d ≠ .invalid) : P.underlying T = some d := by
  unfold kd at h
  cases e : P.underlying T with
  | none => rw [e] at h; exact absurd h.symm hd
  | some d' => rw [e] at h; exact congrArg some h
theorem ik_some {k : IntKind} (h : ik P T = some k) : P.underlying T = some (.int k) := by
  unfold ik at h
  split at h
  · rename_i k' e; obtain rfl := Option.some.inj h; exact kd_some e (by simp)
  · cases h
theorem sle_some {e : Nat} (h : sle P T = some e) : P.underlying T = some (.slice e) := by
  unfold sle at h
  split at h
  · rename_i k' e; obtain rfl := Option.some.inj h; exact kd_some e (by simp)
  · cases h
theorem arT_some {n e : Nat} (h : arT P T = some (n, e)) : P.underlying T = some (.array n e) := by
  unfold arT at h
  split at h
  · rename_i n' e' e; obtain ⟨rfl, rfl⟩ := Prod.mk.inj (Option.some.inj h); exact kd_some e (by simp)
  · cases h
theorem strT_some (h : strT P T = true) : P.underlying T = some .string := by
  unfold strT at h
  split at h
  · rename_i e; exact kd_some e (by simp)
  · cases h
theorem fld_some {i off z : Nat} {g : Bool} (h : fld P T i = some (off, g, z)) : ∃ fs : Array Field, ∃ f d ti, P.underlying T = some (.struct fs) ∧ fs[i]? = some f ∧ f.offset = off ∧ P.underlying f.type = some d ∧ g = !lone1 d ∧ P.info? f.type = some ti ∧ ti.size = z := by
  unfold fld at h
  split at h
  · rename_i fs e
    cases hf : fs[i]? with
    | none => rw [hf] at h; cases h
    | some f =>
      rw [hf] at h
      simp only [Option.bind_some] at h
      split at h
      · rename_i d ti h1 h2
        simp only [Option.some.injEq, Prod.mk.injEq] at h
        exact ⟨fs, f, d, ti, kd_some e (by simp), hf, h.1, h1, h.2.1.symm, h2, h.2.2⟩
      · cases h
  · cases h

theorem yd_v {al : Nat → Bool} {v : V} {u : Value} (hK : K v) (hr : (execOp a.eval o).run P W = .ok (.value u) W) (hv : Rep F W G v u) (hm : ∀ i, men v i = true → al i = true) : Yd P al F W G K ((execOp a.eval o).run P W) :=
  ⟨_, _, hK, hr, hv, hm⟩
theorem move_ok (ho : o.op = .move x ∨ o.op = .assign x) (hR : RelG w0 S m G F σ a W) (h : K (σ.rd x)) : Yd P σ.al F W G K ((execOp a.eval o).run P W) := by
  refine yd_v h ?_ (hR.rd x) (hR.rd_men x)
  rcases ho with ho | ho
  · exact Sym.run_mv ho rfl
  · exact Sym.run_as ho rfl
theorem un_ok {op : UnOp} (ho : o.op = .unOp op T x) (hR : RelG w0 S m G F σ a W) (h : vUn op (σ.rd x) K) : Yd P σ.al F W G K ((execOp a.eval o).run P W) := by
  have hx := hR.rd x
  generalize σ.rd x = vx at *
  unfold vUn at h
  split at h
  · refine yd_b h ?_
    have hx := hx.b_inv
    unfold execOp; simp only [ho, hx]; rfl
  · refine yd_n h ?_
    have hx := hx.n_inv
    unfold execOp; simp only [ho, hx]; rfl
  · refine yd_n h ?_
    have hx := hx.n_inv
    unfold execOp; simp only [ho, hx]; rfl
  · exact h.elim
theorem pick_ok {c : Operand} (ho : o.op = .pick c x y) (hR : RelG w0 S m G F σ a W) (h : vPick (σ.rd c) (σ.rd x) (σ.rd y) K) : Yd P σ.al F W G K ((execOp a.eval o).run P W) := by
  have hc := hR.rd c
  have hx := hR.rd x
  have hy := hR.rd y
  have hxm := hR.rd_men x
  have hym := hR.rd_men y
  generalize σ.rd c = vc at *
  generalize σ.rd x = vx at *
  generalize σ.rd y = vy at *
  unfold vPick at h
  split at h
  · rename_i cc p q
    refine yd_b h ?_
    cases cc with
    | true => exact Sym.run_pick ho hc.b_inv hx.b_inv
    | false => exact Sym.run_pickf ho hc.b_inv hy.b_inv
  · exact yd_v h (Sym.run_pick ho hc.b_inv rfl) hx hxm
  · exact yd_v h (Sym.run_pickf ho hc.b_inv rfl) hy hym
  · exact h.elim
theorem ext_ok {i : Nat} (ho : o.op = .extract x i) (hR : RelG w0 S m G F σ a W) (h : vExt (σ.rd x) i K) : Yd P σ.al F W G K ((execOp a.eval o).run P W) := by
  have hx := hR.rd x
  have hm := hR.rd_men x
  generalize σ.rd x = vx at *
  unfold vExt at h
  split at h
  · rename_i l
    obtain ⟨hi, hK⟩ := h
    obtain ⟨vs, h1, h2, h3⟩ := hx.tp_inv
    have hl : l[i]? = some (l.getD i .j) := by rw [List.getD_eq_getElem?_getD, List.getElem?_eq_getElem hi]; rfl
    have hv : vs[i]? = some (vs[i]'(by omega)) := Array.getElem?_eq_getElem _
    exact yd_v hK (Sym.run_ex ho h1 hv) (h3 i _ _ hl hv) fun k hk => hm k (by simp only [men]; exact menL_of hl hk)
  · exact h.elim
theorem agT_lone {d : TypeDesc} (hd : P.underlying T = some d) : agT P T = !lone1 d := by unfold agT kd; rw [hd]; rfl
theorem run_isAgg {d : TypeDesc} (hd : P.underlying T = some d) : (isAgg T).run P W = .ok (agT P T) W := by
  rw [agT_lone hd]
  unfold isAgg
  rw [Sem.run_bind, run_underlying hd W]
  cases d <;> rfl
theorem sz_und {z : Nat} (h : sz P T = some z) : ∃ i, P.info? T = some i ∧ i.size = z := by
  unfold sz at h
  cases e : P.info? T with
  | none => rw [e] at h; cases h
  | some i => rw [e] at h; exact ⟨i, rfl, Option.some.inj h⟩
theorem menL_drop {l : List V} {i k n : Nat} (h : menL ((l.drop n).take k) i = true) : menL l i = true := by
  have : ∀ l : List V, menL l i = l.any (fun v => men v i) := by
    intro l
    induction l with
    | nil => rfl
    | cons v l ih => simp only [menL, List.any_cons, ih]
  rw [this] at h ⊢
  rw [List.any_eq_true] at h ⊢
  obtain ⟨v, h1, h2⟩ := h
  exact ⟨v, List.mem_of_mem_drop (List.mem_of_mem_take h1), h2⟩
/-- A part of cells that stand for values stands for the part. -/
theorem part_rep {l : List V} {vs : Array Value} {off z : Nat} {g : Bool} (hl : vs.size = l.length) (hr : ∀ (q : Nat) (y : V) (v : Value), l[q]? = some y → vs[q]? = some v → Rep F W G y v) (ho : off + z ≤ l.length) (hz : g = false → z = 1) :
    Rep F W G (partV g z off l) (if g = true then .agg (vs.extract off (off + z)) else vs.getD off undef) ∧ ∀ i, men (partV g z off l) i = true → menL l i = true := by
  cases g with
  | true =>
    refine ⟨.ag _ _ _ (by simp; omega) fun q y v h1 h2 => ?_, fun i hi => ?_⟩
    · have hq : q < z := by
        rcases Nat.lt_or_ge q z with h | h
        · exact h
        · rw [List.getElem?_take, if_neg (by omega)] at h1; cases h1
      rw [List.getElem?_take, if_pos hq, List.getElem?_drop] at h1
      have hs : off + q < vs.size := by omega
      have e : (vs.extract off (off + z))[q]? = vs[off + q]? := by
        rw [Array.getElem?_extract, if_pos (by omega)]
      rw [e] at h2
      exact hr _ _ _ h1 h2
    · simp only [partV, cond_true, men] at hi
      exact menL_drop hi
  | false =>
    have := hz rfl
    have h1 : l[off]? = some (l.getD off .j) := by rw [List.getD_eq_getElem?_getD, List.getElem?_eq_getElem (by omega)]; rfl
    have h2 : vs[off]? = some (vs.getD off undef) := by rw [Array.getD_eq_getD_getElem?, Array.getElem?_eq_getElem (by omega)]; rfl
    refine ⟨hr off _ _ h1 h2, fun i hi => menL_of h1 hi⟩
theorem run_part {d : TypeDesc} {ti : TypeInfo} {vs : Array Value} {off : Nat} (hd : P.underlying T = some d) (hi : P.info? T = some ti) (ho : off + ti.size ≤ vs.size) (hz : (!lone1 d) = false → ti.size = 1) :
    (Go.part T vs off).run P W = .ok (if (!lone1 d) = true then .agg (vs.extract off (off + ti.size)) else vs.getD off undef) W := by
  unfold Go.part
  rw [Sem.run_bind, run_isAgg hd, Result.andThen_ok, agT_lone hd]
  cases hl : lone1 d with
  | true =>
    have := hz (by rw [hl]; rfl)
    have h2 : vs[off]? = some (vs.getD off undef) := by rw [Array.getD_eq_getD_getElem?, Array.getElem?_eq_getElem (by omega)]; rfl
    simp only [Bool.not_true, Bool.false_eq_true, if_false, h2]
    rfl
  | false =>
    simp [sizeOf, typeInfo, hi]
theorem field_ok {i : Nat} (ho : o.op = .field T x i) (hR : RelG w0 S m G F σ a W) (h : vField P T (σ.rd x) i K) : Yd P σ.al F W G K ((execOp a.eval o).run P W) := by
  have hx := hR.rd x
  have hm := hR.rd_men x
  generalize σ.rd x = vx at *
  unfold vField at h
  split at h
  · rename_i l
    obtain ⟨off, g, z, h1, ⟨h3, h4⟩, hK⟩ := h
    obtain ⟨vs, hv, hl, hr⟩ := hx.ag_inv
    obtain ⟨fs, f, d, ti, hu, hf, rfl, hd, rfl, hti, rfl⟩ := fld_some h1
    obtain ⟨p1, p2⟩ := part_rep hl hr h3 h4
    refine yd_v hK ?_ p1 fun k hk => hm k (by simp only [men]; exact p2 k hk)
    have hp := run_part (P := P) (W := W) (vs := vs) (off := f.offset) hd hti (by omega) h4
    unfold execOp
    simp only [ho, hv, Instr.field, Sem.run_bind, run_underlying hu W, Result.andThen_ok, hf, asAgg, Sem.run_pure, hp]
  · exact h.elim
theorem index_ok (ho : o.op = .index T x y) (hR : RelG w0 S m G F σ a W) (h : vIndex P T (σ.rd x) (σ.rd y) K) : Yd P σ.al F W G K ((execOp a.eval o).run P W) := by
  have hx := hR.rd x
  have hy := hR.rd y
  generalize σ.rd x = vx at *
  generalize σ.rd y = vy at *
  unfold vIndex at h
  split at h
  · rename_i l k i
    obtain ⟨⟨h1, h2, h3⟩, hK⟩ := h
    exact yd_n hK (t_char (k := k) l i.toNat (by omega) (strT_some h1) ho hx.s_inv (by rw [hy.n_inv, Int.toNat_of_nonneg h2]))
  · exact h.elim
theorem Rep.sl_form {z : Nat} {α : Type} {d : α} {l : List α} {e : α → V} {v : Value} (h : Rep F W G (.sl z α d l e) v) : ∃ ao c, v = .slice ao l.length c := by
  rcases h.sl_inv with ⟨ao, c, rfl, rfl⟩ | ⟨g, o, c, u, rfl, _⟩
  · exact ⟨_, _, rfl⟩
  · exact ⟨_, _, rfl⟩
theorem len_ok {t : Nat} (ho : o.op = .call { callee := .builtin .len, args := #[x], argTypes := #[T] }) (hR : RelG w0 S m G F σ a W) (h : vLen P T (σ.rd x) K) : Yd P σ.al F W G K ((execOp a.eval o).run P W) := by
  have hx := hR.rd x
  generalize σ.rd x = vx at *
  have sl : ∀ {ao : Option Addr} {n c : Nat}, (sle P T).isSome = true → a.eval x = .slice ao n c → (execOp a.eval o).run P W = .ok (.value (.int .i64 (n : Int))) W := by
    intro ao n c h1 h2
    obtain ⟨e, he⟩ := Option.isSome_iff_exists.1 h1
    exact Sx.r_lenS ho (sle_some he) h2
  unfold vLen at h
  split at h
  · exact yd_n h.2 (t_len ho (strT_some h.1) hx.s_inv)
  · obtain ⟨ao, c, e⟩ := hx.sl_form
    exact yd_n h.2 (sl h.1 e)
  · obtain ⟨e, ao, c, e2⟩ := hx.ow_inv
    exact yd_n h.2 (sl h.1 e2)
  · exact yd_n h.2 (sl h.1 hx.nl_inv)
  · exact h.elim
theorem conv_okR {F' : Nat → Prop} {G' : Gm} {vx : V} (ho : o.op = .convert T T' x) (hx : Rep F' W G' vx (a.eval x)) (h : vConv P T T' vx K) : Yd P σ.al F W G K ((execOp a.eval o).run P W) := by
  unfold vConv at h
  split at h
  · rename_i k0 p
    rcases h with ⟨k, h1, h2, hK⟩ | ⟨⟨_, h1, h2⟩, hK⟩
    · refine yd_n hK ?_
      obtain ⟨d, hd⟩ := Option.isSome_iff_exists.1 h2
      have hx := hx.n_inv
      unfold execOp
      simp only [ho, hx, convert, Sem.run_bind, run_underlying hd W, run_underlying (ik_some h1) W, Result.andThen_ok]
      cases d <;> rfl
    · refine yd_s hK ?_
      obtain ⟨k, hk⟩ := Option.isSome_iff_exists.1 h1
      have hx := hx.n_inv
      unfold rune1
      rw [tx_bl]
      unfold execOp
      simp only [ho, hx, convert, Sem.run_bind, run_underlying (ik_some hk) W, run_underlying (strT_some h2) W, Result.andThen_ok]
      rfl
  · obtain ⟨⟨h1, h2⟩, hK⟩ := h
    refine yd_s hK ?_
    obtain ⟨d, hd⟩ := Option.isSome_iff_exists.1 h2
    have hx := hx.s_inv
    unfold execOp
    simp only [ho, hx, convert, Sem.run_bind, run_underlying hd W, run_underlying (strT_some h1) W, Result.andThen_ok]
    cases d <;> rfl
  · rename_i z α d l e
    obtain ⟨c, t, ⟨rfl, h2, h3, h4, h5⟩, hK⟩ := h
    refine yd_s hK (r_stringR (n := l.length) c ?_ (sle_some h3) (ik_some h4) (strT_some h5) ho rfl)
    have hlen : c.length = l.length := by have := congrArg List.length h2; simpa using this.symm
    refine ⟨by simp [hlen], ?_⟩
    rcases hx.sl_inv with ⟨ao, c', rfl, e1⟩ | ⟨g, off, c', u, e1, hg, hc, hn, hz, hu, hr⟩
    · exact .inl ⟨rfl, ao, c', e1⟩
    · refine .inr ⟨g, off, c', e1, fun j v hj => ?_, hc⟩
      have hjl : j < c.length := by
        rcases Nat.lt_or_ge j c.length with h | h
        · exact h
        · rw [List.getElem?_eq_none (by simpa using h)] at hj; cases hj
      have e2 : l[j]? = some (l[j]'(by omega)) := List.getElem?_eq_getElem _
      have e3 : e (l[j]'(by omega)) = eB (c[j]'hjl) := by
        have h6 : (l.map e)[j]? = (c.map eB)[j]? := by rw [h2]
        rw [List.getElem?_map, List.getElem?_map, e2, List.getElem?_eq_getElem hjl] at h6
        exact Option.some.inj h6
      have e4 : (cs (e (l[j]'(by omega))))[0]? = some (eB (c[j]'hjl)) := by rw [e3]; rfl
      have h7 := hu j _ 0 _ e2 e4
      have h8 := (hr j _ 0 _ e2 e4).n_inv
      rw [h8] at h7
      rw [List.getElem?_map, List.getElem?_eq_getElem hjl] at hj
      obtain rfl := Option.some.inj hj
      simpa [bv] using h7
  · obtain ⟨⟨t, h3, h4, h5⟩, hK⟩ := h
    refine yd_s hK (r_stringR (n := 0) [] ⟨by simp, .inl ⟨rfl, none, 0, hx.nl_inv⟩⟩ (sle_some h3) (ik_some h4) (strT_some h5) ho rfl)
  · exact h.elim
theorem conv_ok (ho : o.op = .convert T T' x) (hR : RelG w0 S m G F σ a W) (h : vConv P T T' (σ.rd x) K) : Yd P σ.al F W G K ((execOp a.eval o).run P W) := conv_okR ho (hR.rd x) h
theorem sz_bind {z : Nat} (h : (sle P T).bind (sz P) = some z) : ∃ e, P.underlying T = some (.slice e) ∧ (P.info? e).map (·.size) = some z ∧ P.elem T = e := by
  cases e : sle P T with
  | none => rw [e] at h; cases h
  | some t =>
    rw [e] at h
    exact ⟨t, sle_some e, h, by unfold Program.elem; rw [sle_some e]⟩
theorem sz_run {e z : Nat} {w : World} (hz : (P.info? e).map (·.size) = some z) : (sizeOf e).run P w = .ok z w := by
  cases h : P.info? e with
  | none => rw [h] at hz; cases hz
  | some inf =>
    rw [h] at hz
    simp only [Option.map_some, Option.some.injEq] at hz
    simp [sizeOf, typeInfo, h, hz]
theorem Rep.cut {z : Nat} {α : Type} {d : α} {l : List α} {e : α → V} {v : Value} (h : Rep F W G (.sl z α d l e) v) {i q : Nat} (h1 : i ≤ q) (h2 : q ≤ l.length) : Rep F W G (.sl z α d ((l.take q).drop i) e) (cutV v i q z) := by
  have hn : ((l.take q).drop i).length = q - i := by rw [List.length_drop, List.length_take]; omega
  have nil : ∀ ao c, q - i = 0 → Rep F W G (.sl z α d ((l.take q).drop i) e) (.slice ao (q - i) c) := fun ao c h => by
    rw [h] at hn ⊢
    rw [List.eq_nil_of_length_eq_zero hn]
    exact .sl0 _ _ _ _ _ _ _
  rcases h.sl_inv with ⟨ao, c, rfl, rfl⟩ | ⟨g, o, c, u, rfl, hg, hc, hm, hz, hu, hr⟩
  · exact nil _ _ (by simp at h2; omega)
  · by_cases h0 : q - i = 0
    · exact nil _ _ h0
    have at_ : ∀ (k : Nat) (x : α), ((l.take q).drop i)[k]? = some x → l[i + k]? = some x := fun k x h => by
      rw [List.getElem?_drop, List.getElem?_take] at h
      split at h
      · exact h
      · cases h
    unfold cutV
    dsimp only
    rw [if_neg (by omega), ← hn]
    rw [show Option.map (fun x => Addr.add x (i * z)) (some ⟨g, o, none⟩) = some ⟨g, o + i * z, none⟩ from by simp [Addr.add]]
    refine .sl _ z α d _ e g (o + i * z) (c - i) (fun k p => u (i + k) p) hg (by omega) (fun k x h => hm _ x (at_ k x h)) (fun k x h => hz _ x (at_ k x h)) (fun k x p y h h' => ?_) fun k x p y h h' => hr _ x p y (at_ k x h) h'
    have := hu _ x p y (at_ k x h) h'
    rw [Nat.add_mul] at this
    rw [show o + i * z + (k * z + p) = o + (i * z + k * z + p) by omega]
    exact this
theorem Rep.shape {z : Nat} {α : Type} {d : α} {l : List α} {e : α → V} {v : Value} (h : Rep F W G (.sl z α d l e) v) : ∃ ao c, v = .slice ao l.length c ∧ l.length ≤ c := by
  rcases h.sl_inv with ⟨ao, c, rfl, rfl⟩ | ⟨g, o, c, u, rfl, _, hc, _⟩
  · exact ⟨_, _, rfl, Nat.zero_le _⟩
  · exact ⟨_, _, rfl, hc⟩
theorem cut_ok {lo hi : Option Operand} (ho : o.op = .slice T x lo hi none) (hR : RelG w0 S m G F σ a W) (h : vCut P T (σ.rd x) (lo.map σ.rd) (hi.map σ.rd) K) : Yd P σ.al F W G K ((execOp a.eval o).run P W) := by
  have hx := hR.rd x
  generalize σ.rd x = vx at *
  unfold vCut at h
  split at h
  · rename_i l k i k' q e1 e2
    obtain ⟨⟨h1, h2, h3, h4⟩, hK⟩ := h
    cases lo with
    | none => cases e1
    | some lo =>
      cases hi with
      | none => cases e2
      | some hi =>
        have e1 := Option.some.inj e1
        have e2 := Option.some.inj e2
        have hl := hR.rd lo
        have hh := hR.rd hi
        rw [e1] at hl
        rw [e2] at hh
        exact yd_s hK (t_cut l i.toNat q.toNat (by omega) (by omega) (strT_some h1) ho hx.s_inv (by rw [hl.n_inv, Int.toNat_of_nonneg h2]) (by rw [hh.n_inv, Int.toNat_of_nonneg (by omega)]))
  · rename_i l k' q e1 e2
    obtain ⟨⟨h1, h2, h3⟩, hK⟩ := h
    cases lo with
    | some lo => cases e1
    | none =>
      cases hi with
      | none => cases e2
      | some hi =>
        have e2 := Option.some.inj e2
        have hh := hR.rd hi
        rw [e2] at hh
        exact yd_s hK (t_to l q.toNat (by omega) (strT_some h1) ho hx.s_inv (by rw [hh.n_inv, Int.toNat_of_nonneg h2]))
  · rename_i l k i e1 e2
    obtain ⟨⟨h1, h2, h3⟩, hK⟩ := h
    cases lo with
    | none => cases e1
    | some lo =>
      cases hi with
      | some hi => cases e2
      | none =>
        have e1 := Option.some.inj e1
        have hl := hR.rd lo
        rw [e1] at hl
        exact yd_s hK (t_from l i.toNat (by omega) (strT_some h1) ho hx.s_inv (by rw [hl.n_inv, Int.toNat_of_nonneg h2]))
  · rename_i z α d l e k i k' q e1 e2
    obtain ⟨⟨h1, h2, h3, h4⟩, hK⟩ := h
    cases lo with
    | none => cases e1
    | some lo =>
      cases hi with
      | none => cases e2
      | some hi =>
        have hl := hR.rd lo
        have hh := hR.rd hi
        rw [Option.some.inj e1] at hl
        rw [Option.some.inj e2] at hh
        obtain ⟨t, hT, hz, he⟩ := sz_bind h1
        refine ⟨_, _, hK, ?_, hx.cut (i := i.toNat) (q := q.toNat) (by omega) (by omega), fun i h => by simp [men] at h⟩
        obtain ⟨ao, c, hv, hc⟩ := hx.shape
        have hr := run_slice_lh (P := P) (t := T) (w := W) (a := ao) (len := l.length) (cap := c) (by rw [he]; exact hT) k k' i q (by omega) (by omega) (by omega)
        rw [he, sz_run hz] at hr
        unfold execOp
        rw [hv] at hx ⊢
        simp only [ho, hv, hl.n_inv, hh.n_inv, Option.map_some, Option.map_none, Sem.run_bind, run_sliceAt_slice W T _ _ _ _ (show P.underlying T = some (.slice (P.elem T)) by rw [he]; exact hT), hr]
        simp only [Result.andThen, sliced]
        rfl
  · rename_i z α d l e k' q e1 e2
    obtain ⟨⟨h1, h2, h3⟩, hK⟩ := h
    cases lo with
    | some lo => cases e1
    | none =>
      cases hi with
      | none => cases e2
      | some hi =>
        have hh := hR.rd hi
        rw [Option.some.inj e2] at hh
        obtain ⟨t, hT, hz, he⟩ := sz_bind h1
        refine ⟨_, _, hK, ?_, by have := hx.cut (i := 0) (q := q.toNat) (by omega) (by omega); rwa [List.drop_zero] at this, fun i h => by simp [men] at h⟩
        obtain ⟨ao, c, hv, hc⟩ := hx.shape
        have hr := run_slice_h (P := P) (t := T) (w := W) (a := ao) (len := l.length) (cap := c) (by rw [he]; exact hT) k' q (by omega) (by omega)
        rw [he, sz_run hz] at hr
        unfold execOp
        rw [hv] at hx ⊢
        simp only [ho, hv, hh.n_inv, Option.map_some, Option.map_none, Sem.run_bind, run_sliceAt_slice W T _ _ _ _ (show P.underlying T = some (.slice (P.elem T)) by rw [he]; exact hT), hr]
        simp only [Result.andThen, sliced, Nat.sub_zero]
        rfl
  · rename_i z α d l e k i e1 e2
    obtain ⟨⟨h1, h2, h3⟩, hK⟩ := h
    cases lo with
    | none => cases e1
    | some lo =>
      cases hi with
      | some hi => cases e2
      | none =>
        have hl := hR.rd lo
        rw [Option.some.inj e1] at hl
        obtain ⟨t, hT, hz, he⟩ := sz_bind h1
        refine ⟨_, _, hK, ?_, by have := hx.cut (i := i.toNat) (q := l.length) (by omega) (Nat.le_refl _); rwa [List.take_length] at this, fun i h => by simp [men] at h⟩
        obtain ⟨ao, c, hv, hc⟩ := hx.shape
        have hr := run_slice_l (P := P) (t := T) (w := W) (a := ao) (len := l.length) (cap := c) (by rw [he]; exact hT) k i (by omega) (by omega)
        rw [he, sz_run hz] at hr
        unfold execOp
        rw [hv] at hx ⊢
        simp only [ho, hv, hl.n_inv, Option.map_some, Option.map_none, Sem.run_bind, run_sliceAt_slice W T _ _ _ _ (show P.underlying T = some (.slice (P.elem T)) by rw [he]; exact hT), hr]
        simp only [Result.andThen, sliced]
        rfl
  · exact h.elim
end
end Go.Proofs.YtikmkgoeepgbkaaGreatDoor.Ev
namespace Go.Proofs.YtikmkgoeepgbkaaGreatDoor.Ev
open Go.RowKit
open Go.Proofs.YtikmkgoeepgbkaaGreatDoor.Mem
set_option linter.unusedVariables false

def blT (P : Program) (T : Nat) : Bool := match kd P T with
  | .bool => true
  | _ => false
/-- How two structs of a type are compared. -/
def EqA (P : Program) (T : Nat) (l l' : List V) (r : Bool) : Prop := P.eqGuardType P.depth T = false ∧
  ∀ (F : Nat → Prop) (W : World) (G : Gm) (vs us : Array Value), Rep F W G (.ag l) (.agg vs) → Rep F W G (.ag l') (.agg us) → (Op.equalIn 10000 T (.agg vs) (.agg us)).run P W = .ok r W
/-- Is it written out? -/
def ltO : Operand → Bool
  | .const _ => true
  | _ => false
theorem ltO_of {y : Operand} (h : ltO y = true) : ∃ v, y = .const v := by
  cases y with
  | const v => exact ⟨v, rfl⟩
  | tmp => cases h
  | global => cases h
  | func => cases h
def vBinT (P : Program) (T : Nat) (y0 : Operand) (op : BinOp) (x y : V) (K : V → Prop) : Prop := match x, y with
  | .ag l, .ag l' => (match op with
    | .eql => ∃ r, EqA P T l l' r ∧ K (.b r)
    | .neq => ∃ r, EqA P T l l' r ∧ K (.b (!r))
    | _ => False)
  | .b p, .b q => (match op with
    | .eql => blT P T = true ∧ K (.b (p == q))
    | .neq => blT P T = true ∧ K (.b (p != q))
    | _ => False)
  | .it _ _, .inil => (match op with
    | .eql => P.isIface T = true ∧ K (.b false)
    | .neq => P.isIface T = true ∧ K (.b true)
    | _ => False)
  | .inil, .inil => (match op with
    | .eql => (ltO y0 = true ∧ P.isIface T = true) ∧ K (.b true)
    | .neq => (ltO y0 = true ∧ P.isIface T = true) ∧ K (.b false)
    | _ => False)
  | x, y => vBin op x y K
theorem blT_some {P : Program} {T : Nat} (h : blT P T = true) : P.underlying T = some .bool := by
  unfold blT at h
  split at h
  · rename_i e; exact kd_some e (by simp)
  · cases h
section
variable {P : Program} {o : Oper} {w0 : Bs} {S : Nat → Prop} {m : Nat} {G : Gm} {F : Nat → Prop} {σ : St} {a : Act} {W : World} {K : V → Prop} {x y : Operand} {T T' : Nat}
theorem run_eqb (p q : Bool) (hT : P.underlying T = some .bool) (ho : o.op = .binOp .eql T x y T') (hx : a.eval x = .bool p) (hy : a.eval y = .bool q) : (execOp a.eval o).run P W = .ok (.value (.bool (p == q))) W := by
  unfold execOp
  simp only [ho, hx, hy]
  generalize a.eval = f at *
  cases p <;> cases q <;> go_simp
theorem run_neb (p q : Bool) (hT : P.underlying T = some .bool) (ho : o.op = .binOp .neq T x y T') (hx : a.eval x = .bool p) (hy : a.eval y = .bool q) : (execOp a.eval o).run P W = .ok (.value (.bool (p != q))) W := by
  unfold execOp
  simp only [ho, hx, hy]
  generalize a.eval = f at *
  cases p <;> cases q <;> go_simp
theorem run_eqa {vs us : Array Value} {r : Bool} (hm : P.eqGuardType P.depth T = false) (e : (Op.equalIn 10000 T (.agg vs) (.agg us)).run P W = .ok r W) (ho : o.op = .binOp .eql T x y T') (hx : a.eval x = .agg vs) (hy : a.eval y = .agg us) : (execOp a.eval o).run P W = .ok (.value (.bool r)) W := by
  unfold execOp
  simp only [ho, hx, hy]
  generalize a.eval = f at *
  simp only [Sem.run_bind, run_eqGuard_agg _ _ _ _ _ _ _ hm, run_eql_struct, e, Result.andThen_ok]
  rfl
theorem run_nea {vs us : Array Value} {r : Bool} (hm : P.eqGuardType P.depth T = false) (e : (Op.equalIn 10000 T (.agg vs) (.agg us)).run P W = .ok r W) (ho : o.op = .binOp .neq T x y T') (hx : a.eval x = .agg vs) (hy : a.eval y = .agg us) : (execOp a.eval o).run P W = .ok (.value (.bool (!r))) W := by
  unfold execOp
  simp only [ho, hx, hy]
  generalize a.eval = f at *
  simp only [Sem.run_bind, run_eqGuard_agg _ _ _ _ _ _ _ hm, run_neq_struct, e, Result.andThen_ok]
  rfl
theorem run_ifn (op : BinOp) {v u : Value} {b : Bool} (hg : (eqGuard op T x y v u).run P W = .ok () W) (hb : (binOp op T v u).run P W = .ok (.bool b) W) (ho : o.op = .binOp op T x y T') (hx : a.eval x = v) (hy : a.eval y = u) : (execOp a.eval o).run P W = .ok (.value (.bool b)) W := by
  unfold execOp
  simp only [ho, hx, hy]
  generalize a.eval = f at *
  simp only [Sem.run_bind, hg, hb, Result.andThen_ok]
  rfl
theorem gd_nil {op : BinOp} (h : ltO y = true) : (eqGuard op T x y .nilIface .nilIface).run P W = .ok () W := by
  obtain ⟨v, rfl⟩ := ltO_of h
  unfold eqGuard
  simp only [Bool.or_true]
  cases op <;> rfl
theorem Rep.inil_inv {v : Value} (h : Rep F W G .inil v) : v = .nilIface := by cases h; rfl
theorem Rep.it_inv0 {t : Nat} {x : V} {u : Value} (h : Rep F W G (.it t x) u) : ∃ x, u = .iface t x := by cases h; exact ⟨_, rfl⟩
theorem binT_ok {op : BinOp} (ho : o.op = .binOp op T x y T') (hR : RelG w0 S m G F σ a W) (h : vBinT P T y op (σ.rd x) (σ.rd y) K) :
    Yd P σ.al F W G K ((execOp a.eval o).run P W) := by
  have hx := hR.rd x
  have hy := hR.rd y
  unfold vBinT at h
  split at h
  · rename_i l l' e1 e2
    rw [e1] at hx
    rw [e2] at hy
    obtain ⟨vs, g1, _, _⟩ := hx.ag_inv
    obtain ⟨us, g2, _, _⟩ := hy.ag_inv
    rw [g1] at hx
    rw [g2] at hy
    split at h
    · obtain ⟨r, h1, h2⟩ := h
      exact yd_b h2 (run_eqa h1.1 (h1.2 F W G vs us hx hy) ho g1 g2)
    · obtain ⟨r, h1, h2⟩ := h
      exact yd_b h2 (run_nea h1.1 (h1.2 F W G vs us hx hy) ho g1 g2)
    · exact h.elim
  · rename_i p q e1 e2
    rw [e1] at hx
    rw [e2] at hy
    split at h
    · exact yd_b h.2 (run_eqb _ _ (blT_some h.1) ho hx.b_inv hy.b_inv)
    · exact yd_b h.2 (run_neb _ _ (blT_some h.1) ho hx.b_inv hy.b_inv)
    · exact h.elim
  · rename_i e1 e2
    rw [e1] at hx
    rw [e2] at hy
    obtain ⟨z, hz⟩ := hx.it_inv0
    split at h
    · exact yd_b h.2 (run_ifn .eql rfl (run_eql_iface_nil _ _ h.1 _ _) ho hz hy.inil_inv)
    · exact yd_b h.2 (run_ifn .neq rfl (run_neq_iface_nil _ _ h.1 _ _) ho hz hy.inil_inv)
    · exact h.elim
  · rename_i e1 e2
    rw [e1] at hx
    rw [e2] at hy
    split at h
    · exact yd_b h.2 (run_ifn .eql (gd_nil h.1.1) (run_eql_nil_nil_at _ _ h.1.2) ho hx.inil_inv hy.inil_inv)
    · exact yd_b h.2 (run_ifn .neq (gd_nil h.1.1) (run_neq_nil_nil_at _ _ h.1.2) ho hx.inil_inv hy.inil_inv)
    · exact h.elim
  · exact bin_ok ho hR h
end
/-- The rules. -/
theorem ebt : (∀ P T y0 op (K : V → Prop) k p k' q, vBinT P T y0 op (.n k p) (.n k' q) K = vBin op (.n k p) (.n k' q) K) ∧ (∀ P T y0 op (K : V → Prop) p q, vBinT P T y0 op (.s p) (.s q) K = vBin op (.s p) (.s q) K) ∧
    (∀ P T y0 (K : V → Prop) p q, vBinT P T y0 .eql (.b p) (.b q) K = (blT P T = true ∧ K (.b (p == q)))) ∧ (∀ P T y0 (K : V → Prop) p q, vBinT P T y0 .neq (.b p) (.b q) K = (blT P T = true ∧ K (.b (p != q)))) ∧
    (∀ P T y0 (K : V → Prop) l l', vBinT P T y0 .eql (.ag l) (.ag l') K = ∃ r, EqA P T l l' r ∧ K (.b r)) ∧ (∀ P T y0 (K : V → Prop) l l', vBinT P T y0 .neq (.ag l) (.ag l') K = ∃ r, EqA P T l l' r ∧ K (.b (!r))) ∧
    (∀ P T y0 (K : V → Prop) t v, vBinT P T y0 .eql (.it t v) .inil K = (P.isIface T = true ∧ K (.b false))) ∧ (∀ P T y0 (K : V → Prop) t v, vBinT P T y0 .neq (.it t v) .inil K = (P.isIface T = true ∧ K (.b true))) ∧
    (∀ P T y0 (K : V → Prop), vBinT P T y0 .eql .inil .inil K = ((ltO y0 = true ∧ P.isIface T = true) ∧ K (.b true))) ∧ (∀ P T y0 (K : V → Prop), vBinT P T y0 .neq .inil .inil K = ((ltO y0 = true ∧ P.isIface T = true) ∧ K (.b false))) ∧ (∀ v, ltO (.const v) = true) := by
  refine ⟨?_, ?_, ?_, ?_, ?_, ?_, ?_, ?_, ?_, ?_, ?_⟩ <;> intros <;> rfl
/-- As vBinT, and slices compared with nil: one of no elements may be nil, or not. -/
def vBinX (P : Program) (T : Nat) (y0 : Operand) (op : BinOp) (x y : V) (K : V → Prop) : Prop := match x, y with
  | .sl _ _ _ l _, .nl => (match op with
    | .eql => (sle P T).isSome = true ∧ K (.b false) ∧ (l = [] → K (.b true))
    | .neq => (sle P T).isSome = true ∧ K (.b true) ∧ (l = [] → K (.b false))
    | _ => False)
  | .nl, .nl => (match op with
    | .eql => (sle P T).isSome = true ∧ K (.b true)
    | .neq => (sle P T).isSome = true ∧ K (.b false)
    | _ => False)
  | x, y => vBinT P T y0 op x y K
section
variable {P : Program} {o : Oper} {w0 : Bs} {S : Nat → Prop} {m : Nat} {G : Gm} {F : Nat → Prop} {σ : St} {a : Act} {W : World} {K : V → Prop} {x y : Operand} {T T' : Nat}
theorem sl_nil_run {z : Nat} {α : Type} {d : α} {l : List α} {e : α → V} {v : Value} (hx : Rep F W G (.sl z α d l e) v) : ∃ ao n c, v = .slice ao n c ∧ (l ≠ [] → ao.isNone = false) := by
  rcases hx.sl_inv with ⟨ao, c, h1, h2⟩ | ⟨g, o', c, u, h2, _⟩
  · exact ⟨ao, 0, c, h2, fun h => absurd h1 h⟩
  · exact ⟨_, _, _, h2, fun _ => rfl⟩
theorem neq_sl_nil (w : World) (t e : Nat) (a : Option Addr) (n c n' c' : Nat) (h : P.underlying t = some (.slice e)) : (binOp .neq t (.slice a n c) (.slice none n' c')).run P w = .ok (.bool (!a.isNone)) w := by
  simp only [binOp]
  simp [Op.equal, Op.maxDepth, Lib.run_equalIn_slice_nil w 9999 t e a n c n' c' h]
theorem binX_ok {op : BinOp} (ho : o.op = .binOp op T x y T') (hR : RelG w0 S m G F σ a W) (h : vBinX P T y op (σ.rd x) (σ.rd y) K) :
    Yd P σ.al F W G K ((execOp a.eval o).run P W) := by
  have hx := hR.rd x
  have hy := hR.rd y
  unfold vBinX at h
  split at h
  · rename_i z α d l e e1 e2
    rw [e1] at hx
    rw [e2] at hy
    obtain ⟨ao, n, c, hv, hn⟩ := sl_nil_run hx
    split at h
    · obtain ⟨t, ht⟩ := Option.isSome_iff_exists.1 h.1
      refine yd_b (b := ao.isNone) ?_ (run_ifn .eql rfl (Lib.run_eql_slice_nil W _ _ ao n c 0 0 (sle_some ht)) ho hv hy.nl_inv)
      by_cases h0 : ao.isNone = true
      · rw [h0]; exact h.2.2 (Classical.byContradiction fun hl => by rw [hn hl] at h0; cases h0)
      · rw [Bool.not_eq_true] at h0; rw [h0]; exact h.2.1
    · obtain ⟨t, ht⟩ := Option.isSome_iff_exists.1 h.1
      refine yd_b (b := !ao.isNone) ?_ (run_ifn .neq rfl (neq_sl_nil W _ _ ao n c 0 0 (sle_some ht)) ho hv hy.nl_inv)
      by_cases h0 : ao.isNone = true
      · rw [h0]; exact h.2.2 (Classical.byContradiction fun hl => by rw [hn hl] at h0; cases h0)
      · rw [Bool.not_eq_true] at h0; rw [h0]; exact h.2.1
    · exact h.elim
  · rename_i e1 e2
    rw [e1] at hx
    rw [e2] at hy
    split at h
    · obtain ⟨t, ht⟩ := Option.isSome_iff_exists.1 h.1
      exact yd_b h.2 (run_ifn .eql rfl (Lib.run_eql_slice_nil W _ _ none 0 0 0 0 (sle_some ht)) ho hx.nl_inv hy.nl_inv)
    · obtain ⟨t, ht⟩ := Option.isSome_iff_exists.1 h.1
      exact yd_b h.2 (run_ifn .neq rfl (neq_sl_nil W _ _ none 0 0 0 0 (sle_some ht)) ho hx.nl_inv hy.nl_inv)
    · exact h.elim
  · exact binT_ok ho hR h
end
/-- The rules. -/
theorem ebx : (∀ P T y0 op (K : V → Prop) k p k' q, vBinX P T y0 op (.n k p) (.n k' q) K = vBinT P T y0 op (.n k p) (.n k' q) K) ∧ (∀ P T y0 op (K : V → Prop) p q, vBinX P T y0 op (.s p) (.s q) K = vBinT P T y0 op (.s p) (.s q) K) ∧
    (∀ P T y0 op (K : V → Prop) p q, vBinX P T y0 op (.b p) (.b q) K = vBinT P T y0 op (.b p) (.b q) K) ∧ (∀ P T y0 op (K : V → Prop) p q, vBinX P T y0 op (.ag p) (.ag q) K = vBinT P T y0 op (.ag p) (.ag q) K) ∧
    (∀ P T y0 op (K : V → Prop) t v, vBinX P T y0 op (.it t v) .inil K = vBinT P T y0 op (.it t v) .inil K) ∧ (∀ P T y0 op (K : V → Prop), vBinX P T y0 op .inil .inil K = vBinT P T y0 op .inil .inil K) ∧
    (∀ P T y0 (K : V → Prop) z α d l e, vBinX P T y0 .eql (.sl z α d l e) .nl K = ((sle P T).isSome = true ∧ K (.b false) ∧ (l = [] → K (.b true)))) ∧ (∀ P T y0 (K : V → Prop) z α d l e, vBinX P T y0 .neq (.sl z α d l e) .nl K = ((sle P T).isSome = true ∧ K (.b true) ∧ (l = [] → K (.b false)))) ∧
    (∀ P T y0 (K : V → Prop), vBinX P T y0 .eql .nl .nl K = ((sle P T).isSome = true ∧ K (.b true))) ∧ (∀ P T y0 (K : V → Prop), vBinX P T y0 .neq .nl .nl K = ((sle P T).isSome = true ∧ K (.b false))) := by
  refine ⟨?_, ?_, ?_, ?_, ?_, ?_, ?_, ?_, ?_, ?_⟩ <;> intros <;> rfl
end Go.Proofs.YtikmkgoeepgbkaaGreatDoor.Ev
namespace Go.Proofs.YtikmkgoeepgbkaaGreatDoor.Ev
open Go.RowKit
open Go.Proofs.YtikmkgoeepgbkaaGreatDoor.Mem
set_option linter.unusedVariables false

/-- Where an element stands. -/
def vIxA (P : Program) (T : Nat) (bk : Nat → Option Bk) (x i : V) (K : V → Prop) : Prop := match x, i with
  | .sl z _ d l e, .n _ i => (∃ t, sle P T = some t ∧ sz P t = some z) ∧ (0 ≤ i ∧ i < l.length) ∧ K (.px (e (l.getD i.toNat d)))
  | .ow q n, .n _ i => match bk q with
    | some (.row _ z _ _ l _ _) => (∃ t, sle P T = some t ∧ sz P t = some z) ∧ (n = l.length ∧ 0 ≤ i ∧ i < l.length) ∧ K (.pe q z i.toNat 0)
    | _ => False
  | .p q off, .n _ i => ∃ n t z, (arT P T = some (n, t) ∧ sz P t = some z) ∧ (0 ≤ i ∧ i < n ∧ z ≠ 0) ∧ K (.p q (off + i.toNat * z))
  | .gl q off, .n _ i => ∃ n t z, (arT P T = some (n, t) ∧ sz P t = some z) ∧ (0 ≤ i ∧ i < n ∧ z ≠ 0) ∧ K (.gl q (off + i.toNat * z))
  | _, _ => False
def vFldA (P : Program) (T : Nat) (x : V) (i : Nat) (K : V → Prop) : Prop := match x with
  | .p q o => ∃ off g z, (fld P T i = some (off, g, z) ∧ z ≠ 0) ∧ K (.p q (o + off))
  | .pe q s k o => ∃ off g z, (fld P T i = some (off, g, z) ∧ z ≠ 0) ∧ K (.pe q s k (o + off))
  | .px (.ag l) => ∃ off g z, fld P T i = some (off, g, z) ∧ (z ≠ 0 ∧ off + z ≤ l.length ∧ (g = false → z = 1)) ∧ (∀ l', partV g z off l = .ag l' → g = true) ∧ K (.px (partV g z off l))
  | _ => False
/-- A value that cells of that type may hold. -/
def fits (g : Bool) (z : Nat) : V → Prop
  | .ag l => g = true ∧ l.length = z
  | _ => g = false ∧ z = 1
def vLoad (P : Program) (T : Nat) (bk : Nat → Option Bk) (x : V) (K : V → Prop) : Prop := match x with
  | .px v => (∃ z, (P.underlying T).isSome = true ∧ sz P T = some z ∧ fits (agT P T) z v) ∧ K v
  | .p q off => match bk q with
    | some (.cells _ l) => ∃ z, ((P.underlying T).isSome = true ∧ sz P T = some z) ∧ (off + z ≤ l.length ∧ (agT P T = false → z = 1)) ∧ K (partV (agT P T) z off l)
    | _ => False
  | .pe q s k off => match bk q with
    | some (.row _ s' _ d l e _) => ∃ z, ((P.underlying T).isSome = true ∧ sz P T = some z) ∧ (s = s' ∧ k < l.length ∧ off + z ≤ s ∧ (agT P T = false → z = 1)) ∧ K (partV (agT P T) z off (cs (e (l.getD k d))))
    | _ => False
  | _ => False

section
variable {P : Program} {o : Oper} {w0 : Bs} {S : Nat → Prop} {m : Nat} {G : Gm} {F : Nat → Prop} {σ : St} {a : Act} {W : World} {K : V → Prop} {x y : Operand} {T T' : Nat}
theorem nat_of {k : IntKind} {i : Int} (h : a.eval y = .int k i) (h0 : 0 ≤ i) : a.eval y = .int k ((i.toNat : Nat) : Int) := by rw [h, Int.toNat_of_nonneg h0]
theorem size_runz {e : TypeId} {z : Nat} (hz : sz P e = some z) (w : World) : (sizeOf e).run P w = .ok z w := by
  unfold sz at hz
  cases h : P.info? e with
  | none => rw [h] at hz; cases hz
  | some i =>
    rw [h] at hz; simp at hz
    have e1 : (typeInfo e).run P w = .ok i w := by simp [typeInfo, h]
    simp [sizeOf, e1, hz]
theorem r_ixP {e : TypeId} {len z : Nat} {k : IntKind} (g p i : Nat) (hi : i < len) (hz0 : z ≠ 0) (hT : P.underlying T = some (.array len e)) (hz : sz P e = some z) (ho : o.op = .indexAddr T x y)
    (hx : a.eval x = .pointer (some ⟨g, p, none⟩)) (hy : a.eval y = .int k (i : Int)) : (execOp a.eval o).run P W = .ok (.value (.pointer (some ⟨g, p + i * z, none⟩))) W := by
  have hl : P.arrayLen T = len := by unfold Program.arrayLen; rw [hT]
  have he : P.elem T = e := by unfold Program.elem; rw [hT]
  have h1 := run_indexAt_array (P := P) W T ⟨g, p, none⟩ k (i : Int) (by rw [hl, he]; exact hT)
  rw [hl, he, if_pos (by omega), size_runz hz] at h1
  unfold execOp
  simp only [ho, hx, hy]
  simp only [Sem.run_bind, h1]
  simp [Result.andThen, add_lit]
theorem ixa_ok (ho : o.op = .indexAddr T x y) (hR : RelG w0 S m G F σ a W) (h : vIxA P T σ.bk (σ.rd x) (σ.rd y) K) : Yd P σ.al F W G K ((execOp a.eval o).run P W) := by
  have hx := hR.rd x
  have hy := hR.rd y
  have hm := hR.rd_men x
  generalize σ.rd x = vx at *
  generalize σ.rd y = vy at *
  unfold vIxA at h
  split at h
  · rename_i z α d l e k i
    obtain ⟨⟨t, h1, h2⟩, ⟨h3, h4⟩, hK⟩ := h
    have hi : i.toNat < l.length := by omega
    have e2 : l[i.toNat]? = some (l.getD i.toNat d) := by rw [List.getD_eq_getElem?_getD, List.getElem?_eq_getElem hi]; rfl
    rcases hx.sl_inv with ⟨ao, c', rfl, e1⟩ | ⟨g, off, c', u, e1, hg, hc, hn, hz, hu, hr⟩
    · simp at hi
    · refine yd_v hK (r_ixS g off i.toNat l.length c' z hi (sle_some h1) h2 ho e1 (nat_of hy.n_inv h3)) ?_ fun i hi => by simp [men] at hi
      refine .px _ _ _ _ (u i.toNat) hg (hn _ _ e2) (fun q y h => ?_) (fun q y h => hr _ _ _ _ e2 h)
      rw [Nat.add_assoc]
      exact hu _ _ _ _ e2 h
  · rename_i q n k i
    split at h
    · rename_i T1 z α d l e c hb
      obtain ⟨⟨t, h1, h2⟩, ⟨rfl, h3, h4⟩, hK⟩ := h
      obtain ⟨xs, b1, b2, b3⟩ := hR.blk q _ hb
      obtain ⟨e1, ao, c', e2⟩ := hx.ow_inv
      have hi : i.toNat < l.length := by omega
      rcases b1.2 with ⟨h5, h6⟩ | ⟨g, cap, cur, h5, _⟩
      · omega
      · rw [h5] at e1
        have hgg := b2 g (by rw [h5]; rfl)
        refine yd_v hK (r_ixS g 0 i.toNat l.length cap z hi (sle_some h1) h2 ho e1 (nat_of hy.n_inv h3)) ?_ fun k hk => ?_
        · have := Rep.pe (F := F) (W := W) G q z i.toNat 0
          rw [← hgg] at this
          simpa using this
        · exact hm k (by simpa [men] using hk)
    · exact h.elim
  · rename_i q off k i
    obtain ⟨n, t, z, ⟨h1, h2⟩, ⟨h3, h4, h5⟩, hK⟩ := h
    exact yd_v hK (r_ixP _ off i.toNat (by omega) h5 (arT_some h1) h2 ho hx.p_inv (nat_of hy.n_inv h3)) (.p _ _ _) fun k hk => hm k (by simpa [men] using hk)
  · rename_i q off k i
    obtain ⟨n, t, z, ⟨h1, h2⟩, ⟨h3, h4, h5⟩, hK⟩ := h
    exact yd_v hK (r_ixP _ off i.toNat (by omega) h5 (arT_some h1) h2 ho hx.gl_inv (nat_of hy.n_inv h3)) (.gl _ _ _) fun k hk => by simp [men] at hk
  · exact h.elim
theorem men_part {l : List V} {off z : Nat} {g : Bool} (hl : off + z ≤ l.length) (hz : g = false → z = 1) {i : Nat} (h : men (partV g z off l) i = true) : menL l i = true := by
  cases g with
  | true => simp only [partV, cond_true, men] at h; exact menL_drop h
  | false =>
    have := hz rfl
    have h1 : l[off]? = some (l.getD off .j) := by rw [List.getD_eq_getElem?_getD, List.getElem?_eq_getElem (by omega)]; rfl
    exact menL_of h1 h
theorem run_fieldAt {fs : Array Field} {f : Field} {ti : TypeInfo} {i g p : Nat} (hu : P.underlying T = some (.struct fs)) (hf : fs[i]? = some f) (hi : P.info? f.type = some ti) (hz : ti.size ≠ 0) (ho : o.op = .fieldAddr T x i) (hx : a.eval x = .pointer (some ⟨g, p, none⟩)) :
    (execOp a.eval o).run P W = .ok (.value (.pointer (some ⟨g, p + f.offset, none⟩))) W := by
  unfold execOp
  simp only [ho, hx, Instr.fieldAt, Sem.run_bind, run_underlying hu W, Result.andThen_ok, hf, Instr.sureAddr, Sem.run_pure, fieldPlace]
  simp [sizeOf, typeInfo, hi, hz, add_lit]
theorem flda_ok {i : Nat} (ho : o.op = .fieldAddr T x i) (hR : RelG w0 S m G F σ a W) (h : vFldA P T (σ.rd x) i K) : Yd P σ.al F W G K ((execOp a.eval o).run P W) := by
  have hx := hR.rd x
  have hm := hR.rd_men x
  generalize σ.rd x = vx at *
  unfold vFldA at h
  split at h
  · obtain ⟨off, g, z, ⟨h1, h2⟩, hK⟩ := h
    obtain ⟨fs, f, d, ti, hu, hf, rfl, hd, rfl, hti, rfl⟩ := fld_some h1
    exact yd_v hK (run_fieldAt hu hf hti h2 ho hx.p_inv) (.p _ _ _) fun k hk => hm k (by simpa [men] using hk)
  · obtain ⟨off, g, z, ⟨h1, h2⟩, hK⟩ := h
    obtain ⟨fs, f, d, ti, hu, hf, rfl, hd, rfl, hti, rfl⟩ := fld_some h1
    refine yd_v hK (run_fieldAt hu hf hti h2 ho hx.pe_inv) ?_ fun k hk => hm k (by simpa [men] using hk)
    rw [Nat.add_assoc]
    exact .pe _ _ _ _ _
  · rename_i l
    obtain ⟨off, g, z, h1, ⟨h2, h3, h4⟩, h5, hK⟩ := h
    obtain ⟨fs, f, d, ti, hu, hf, rfl, hd, rfl, hti, rfl⟩ := fld_some h1
    obtain ⟨g, p, u, e1, hg, hn, hu1, hr⟩ := hx.px_inv
    refine yd_v hK (run_fieldAt hu hf hti h2 ho e1) ?_ fun k hk => by simp [men] at hk
    have key : ∀ (q : Nat) (y : V), (cs (partV (!lone1 d) ti.size f.offset l))[q]? = some y → l[f.offset + q]? = some y := by
      intro q y hq
      cases hl : (!lone1 d) with
      | true =>
        rw [hl] at hq
        simp only [partV, cond_true, cs] at hq
        rw [List.getElem?_take] at hq
        split at hq
        · rwa [List.getElem?_drop] at hq
        · cases hq
      | false =>
        rw [hl] at hq h5
        have h6 : ∀ l', partV false ti.size f.offset l ≠ .ag l' := fun l' e => by have := h5 l' e; cases this
        have h7 : cs (partV false ti.size f.offset l) = [partV false ti.size f.offset l] := by
          generalize partV false ti.size f.offset l = v at *
          cases v <;> first | rfl | exact absurd rfl (h6 _)
        rw [h7] at hq
        cases q with
        | succ q => simp at hq
        | zero =>
          simp only [List.getElem?_cons_zero, Option.some.injEq] at hq
          rw [← hq, Nat.add_zero]
          show _ = some (l.getD f.offset .j)
          rw [List.getD_eq_getElem?_getD, List.getElem?_eq_getElem (by omega)]
          rfl
    exact .px _ _ _ _ (fun q => u (f.offset + q)) hg (fun k => by
      cases e : men (partV (!lone1 d) ti.size f.offset l) k with
      | false => rfl
      | true => have := hn k; simp only [men] at this; rw [men_part h3 h4 e] at this; cases this) (fun q y h => by rw [Nat.add_assoc]; exact hu1 _ _ (key q y h)) (fun q y h => hr _ _ (key q y h))
  · exact h.elim
/-- Cells that stand for a part are loaded as the part. -/
theorem load_part {d : TypeDesc} {ti : TypeInfo} {l : List V} {g p off : Nat} {vs : Nat → Value} (hd : P.underlying T = some d) (hi : P.info? T = some ti) (ho : o.op = .load T x) (hx : a.eval x = .pointer (some ⟨g, p + off, none⟩))
    (hc : ∀ q y, l[q]? = some y → W.cell? ⟨g, p + q, none⟩ = some (vs q)) (hl : off + ti.size ≤ l.length) (hz : agT P T = false → ti.size = 1) :
    (execOp a.eval o).run P W = .ok (.value (if agT P T = true then .agg ((List.range ti.size).map fun q => vs (off + q)).toArray else vs off)) W := by
  have hcell : ∀ q, off + q < l.length → W.cell? ⟨g, p + off + q, none⟩ = some (vs (off + q)) := fun q hq => by
    rw [Nat.add_assoc]
    exact hc _ _ (List.getElem?_eq_getElem hq)
  cases hg : agT P T with
  | true =>
    have hlo : lone1 d = false := by have := agT_lone hd; rw [hg] at this; simpa using this.symm
    rw [if_pos rfl]
    refine r_partw (fun j v hv => ?_) hd hlo (by rw [hi]; simp) ho hx
    have hj : j < ti.size := by
      rcases Nat.lt_or_ge j ti.size with h | h
      · exact h
      · rw [Array.getElem?_eq_none (by simpa using h)] at hv; cases hv
    rw [hcell j (by omega)]
    simpa [hj] using hv
  | false =>
    have hlo : lone1 d = true := by have := agT_lone hd; rw [hg] at this; simpa using this.symm
    have := hz hg
    rw [if_neg (by simp)]
    exact r_cellw (hcell 0 (by omega)) hd hlo ho hx
theorem rep_part {F : Nat → Prop} {l : List V} {off z : Nat} {g : Bool} {vs : Nat → Value} (hr : ∀ q y, l[q]? = some y → Rep F W G y (vs q)) (hl : off + z ≤ l.length) (hz : g = false → z = 1) :
    Rep F W G (partV g z off l) (if g = true then .agg ((List.range z).map fun q => vs (off + q)).toArray else vs off) := by
  have := (part_rep (F := F) (W := W) (G := G) (l := l) (vs := ((List.range l.length).map vs).toArray) (off := off) (z := z) (g := g) (by simp) (fun q y v h1 h2 => by
    have hq : q < l.length := (List.getElem?_eq_some_iff.1 h1).1
    have : v = vs q := by simpa [hq] using h2.symm
    rw [this]
    exact hr q y h1) hl hz).1
  cases g with
  | true =>
    simp only [if_true] at this ⊢
    have e : (((List.range l.length).map vs).toArray).extract off (off + z) = ((List.range z).map fun q => vs (off + q)).toArray := by
      apply Array.ext_getElem?
      intro i
      rw [Array.getElem?_extract]
      by_cases hi : i < z
      · rw [if_pos (by simp; omega)]
        simp only [List.getElem?_toArray, List.getElem?_map]
        rw [List.getElem?_range (by omega), List.getElem?_range hi]
        rfl
      · rw [if_neg (by simp; omega)]
        simp only [List.getElem?_toArray, List.getElem?_map]
        rw [List.getElem?_eq_none (by simp; omega)]
        rfl
    rwa [e] at this
  | false =>
    have hz1 := hz rfl
    simp only [Bool.false_eq_true, if_false] at this ⊢
    have e : (((List.range l.length).map vs).toArray).getD off undef = vs off := by
      rw [Array.getD_eq_getD_getElem?]
      simp only [List.getElem?_toArray, List.getElem?_map]
      rw [List.getElem?_range (by omega)]
      rfl
    rwa [e] at this
theorem load_ok (ho : o.op = .load T x) (hR : RelG w0 S m G F σ a W) (h : vLoad P T σ.bk (σ.rd x) K) : Yd P σ.al F W G K ((execOp a.eval o).run P W) := by
  have hx := hR.rd x
  have hm := hR.rd_men x
  generalize σ.rd x = vx at *
  unfold vLoad at h
  split at h
  · rename_i v
    obtain ⟨⟨z, h1, h2, h3⟩, hK⟩ := h
    obtain ⟨d, hd⟩ := Option.isSome_iff_exists.1 h1
    obtain ⟨ti, hti, rfl⟩ := sz_und h2
    obtain ⟨g, p, u, e1, hg, hn, hu, hr⟩ := hx.px_inv
    have hfit : ti.size = (cs v).length ∧ partV (agT P T) ti.size 0 (cs v) = v ∧ (agT P T = false → ti.size = 1) := by
      cases v with
      | ag l =>
        obtain ⟨f1, f2⟩ := h3
        rw [f1]
        exact ⟨f2.symm, by simp [partV, cs, ← f2], fun h => by cases h⟩
      | _ =>
        obtain ⟨f1, f2⟩ := h3
        rw [f1, f2]
        exact ⟨rfl, rfl, fun _ => rfl⟩
    obtain ⟨f1, f2, f3⟩ := hfit
    have hl : 0 + ti.size ≤ (cs v).length := by omega
    have h6 := load_part (P := P) (W := W) (l := cs v) (p := p) (off := 0) (vs := u) hd hti ho (by rw [e1, Nat.add_zero]) hu hl f3
    have h7 := rep_part (G := G) (F := F) (W := W) (l := cs v) (off := 0) (z := ti.size) (g := agT P T) (vs := u) (fun q y h => (hr q y h).ren fun i hi => by
      rw [men_cs' hn h i] at hi; cases hi) hl f3
    rw [f2] at h7
    exact yd_v hK h6 h7 fun i hi => by rw [hn i] at hi; cases hi
  · rename_i q off
    split at h
    · rename_i T1 l hb
      obtain ⟨z, ⟨h1, h2⟩, ⟨h3, h4⟩, hK⟩ := h
      obtain ⟨d, hd⟩ := Option.isSome_iff_exists.1 h1
      obtain ⟨ti, hti, rfl⟩ := sz_und h2
      obtain ⟨c, b1, b2, b3⟩ := hR.blk q _ hb
      have hc : ∀ k y, l[k]? = some y → c[k]? = some (c.getD k undef) := fun k y hk => by
        have hk : k < l.length := (List.getElem?_eq_some_iff.1 hk).1
        rw [Array.getD_eq_getD_getElem?, Array.getElem?_eq_getElem (by omega)]; rfl
      refine yd_v hK (load_part (l := l) (p := 0) (vs := fun k => c.getD k undef) hd hti ho (by rw [hx.p_inv, Nat.zero_add]) (fun k y hk => by rw [Nat.zero_add, b1.cell]; exact hc k y hk) h3 h4) (rep_part (fun k y hk => b3 k y _ hk (hc k y hk)) h3 h4) fun i hi => ?_
      exact (hR.wfb q _ hb).2 i (men_part h3 h4 hi)
    · exact h.elim
  · rename_i q s k off
    split at h
    · rename_i T1 s' α d0 l e c hb
      obtain ⟨z, ⟨h1, h2⟩, ⟨rfl, h3, h4, h5⟩, hK⟩ := h
      obtain ⟨d, hd⟩ := Option.isSome_iff_exists.1 h1
      obtain ⟨ti, hti, rfl⟩ := sz_und h2
      obtain ⟨xs, b1, b2, b3⟩ := hR.blk q _ hb
      have e2 : l[k]? = some (l.getD k d0) := by rw [List.getD_eq_getElem?_getD, List.getElem?_eq_getElem h3]; rfl
      obtain ⟨hlen, hnm, hel⟩ := b3 k _ e2
      rcases b1.2 with ⟨h8, h9⟩ | ⟨g, cap, cur, h8, _⟩
      · omega
      · have hgg := b2 g (by rw [h8]; rfl)
        have hc : ∀ j y, (cs (e (l.getD k d0)))[j]? = some y → W.cell? ⟨(G q).1, k * s + j, none⟩ = some (xs.getD (k * s + j) undef) ∧ Rep F W G0 y (xs.getD (k * s + j) undef) := fun j y hj => by
          obtain ⟨v, hv, hv2⟩ := hel j y hj
          have := b1.cells (g := g) (by rw [h8]; rfl) (k * s + j) v hv
          rw [add_lit, Nat.zero_add] at this
          rw [List.getD_eq_getElem?_getD, hv, ← hgg]
          exact ⟨this, hv2⟩
        have hl : off + ti.size ≤ (cs (e (l.getD k d0))).length := by omega
        have h6 := load_part (P := P) (W := W) (l := cs (e (l.getD k d0))) (p := k * s) (off := off) (vs := fun j => xs.getD (k * s + j) undef) hd hti ho hx.pe_inv (fun j y hj => (hc j y hj).1) hl h5
        have h7 := rep_part (G := G) (F := F) (W := W) (l := cs (e (l.getD k d0))) (off := off) (z := ti.size) (g := agT P T) (vs := fun j => xs.getD (k * s + j) undef) (fun j y h => (hc j y h).2.ren fun i hi => by
          rw [men_cs' hnm h i] at hi; cases hi) hl h5
        refine yd_v hK h6 h7 fun i hi => ?_
        have := men_part hl h5 hi
        have h0 : ∀ v : V, menL (cs v) i = true → men v i = true := by
          intro v hv
          cases v <;> first | exact hv | simpa [cs, menL] using hv
        have := h0 _ this
        rw [hnm i] at this
        cases this
    · exact h.elim
  · exact h.elim
/-- What is read, tables among it. -/
def vLoadG (P : Program) (L : World → Prop) (T : Nat) (bk : Nat → Option Bk) (x : V) (K : V → Prop) : Prop := match x with
  | .gl g o => ∃ (l : List (IntKind × Int)) (z : Nat), ((P.underlying T).isSome = true ∧ sz P T = some z) ∧ (z ≤ l.length ∧ (agT P T = false → z = 1)) ∧ (∀ w, L w → ∀ q p, l[q]? = some p → w.cell? ⟨g, o + q, none⟩ = some (.int p.1 p.2)) ∧ K (partV (agT P T) z 0 (l.map fun p => V.n p.1 p.2))
  | x => vLoad P T bk x K
theorem loadG_ok {L : World → Prop} (ho : o.op = .load T x) (hR : RelG w0 S m G F σ a W) (hL : L W) (h : vLoadG P L T σ.bk (σ.rd x) K) : Yd P σ.al F W G K ((execOp a.eval o).run P W) := by
  have hx := hR.rd x
  unfold vLoadG at h
  split at h
  · rename_i g off e
    rw [e] at hx
    obtain ⟨l, z, ⟨h1, h2⟩, ⟨h3, h4⟩, h5, hK⟩ := h
    obtain ⟨d, hd⟩ := Option.isSome_iff_exists.1 h1
    obtain ⟨ti, hti, rfl⟩ := sz_und h2
    have hget : ∀ (q : Nat) (y : V), (l.map fun p => V.n p.1 p.2)[q]? = some y → ∃ p, l[q]? = some p ∧ y = V.n p.1 p.2 := fun q y hq => by
      rw [List.getElem?_map] at hq
      cases e : l[q]? with
      | none => rw [e] at hq; cases hq
      | some p => rw [e] at hq; simp at hq; exact ⟨p, rfl, hq.symm⟩
    have hl : 0 + ti.size ≤ (l.map fun p => V.n p.1 p.2).length := by simp; omega
    have hc : ∀ (q : Nat) (y : V), (l.map fun p => V.n p.1 p.2)[q]? = some y → W.cell? ⟨g, off + q, none⟩ = some (match l[q]? with
      | some p => .int p.1 p.2
      | none => undef) := fun q y hq => by
      obtain ⟨p, h6, _⟩ := hget q y hq
      rw [h6]
      exact h5 W hL q p h6
    refine yd_v hK (load_part (l := l.map fun p => V.n p.1 p.2) (p := off) (off := 0) hd hti ho (by rw [hx.gl_inv, Nat.add_zero]) hc hl h4) (rep_part (fun q y hq => ?_) hl h4) fun i hi => ?_
    · obtain ⟨p, h6, h7⟩ := hget q y hq
      rw [h6, h7]
      exact .n _ _ _
    · have := men_part hl h4 hi
      have h0 : ∀ (l : List (IntKind × Int)), menL (l.map fun p => V.n p.1 p.2) i = false := fun l => by
        induction l with
        | nil => rfl
        | cons p l ih => simp [menL, men, ih]
      rw [h0] at this
      cases this
  · exact load_ok ho hR h
end
end Go.Proofs.YtikmkgoeepgbkaaGreatDoor.Ev
namespace Go.Proofs.YtikmkgoeepgbkaaGreatDoor.Ev
open Go.RowKit
open Go.Proofs.YtikmkgoeepgbkaaGreatDoor.Mem
set_option linter.unusedVariables false

def St.nw (σ : St) (d : Nat) (v : V) (s : Option Nat) (b : Bk) : St :=
  { sl := fun t => if t = d then v else σ.sl t, bk := fun i => if i = d then some b else if s = some i then none else σ.bk i, al := fun i => i == d || σ.al i }
def St.setB (σ : St) (i : Nat) (b : Bk) : St := { σ with bk := fun k => if k = i then some b else σ.bk k }

section
variable {P : Program} {o : Oper} {w0 : Bs} {S : Nat → Prop} {m : Nat} {G : Gm} {F : Nat → Prop} {σ : St} {a : Act} {W W' : World}
theorem BkRep.keep {i : Nat} {b : Bk} (h : BkRep F W G i b) (hF : ∀ g, F g → W'.heap[g]? = W.heap[g]?) (ho : ∀ g, b.ob G i g → W'.heap[g]? = W.heap[g]?) : BkRep F W' G i b := by
  cases b with
  | cells T l =>
    obtain ⟨c, h1, h2, h3⟩ := h
    exact ⟨c, h1.of_heap (ho _ rfl), h2, fun q y v e1 e2 => (h3 q y v e1 e2).keep hF⟩
  | row T z α d l e c =>
    obtain ⟨xs, h1, h2, h3⟩ := h
    refine ⟨xs, row_kept h1 ho, h2, fun q x hq => ?_⟩
    obtain ⟨k1, k2, k3⟩ := h3 q x hq
    exact ⟨k1, k2, fun k y hy => by obtain ⟨v, e1, e2⟩ := k3 k y hy; exact ⟨v, e1, e2.keep hF⟩⟩
  | itr l p => exact (ho _ rfl).trans h
theorem BkRep.wide {i : Nat} {b : Bk} {F' : Nat → Prop} (h : BkRep F W G i b) (hF : ∀ g, F g → F' g) : BkRep F' W G i b := by
  cases b with
  | cells T l =>
    obtain ⟨c, h1, h2, h3⟩ := h
    exact ⟨c, h1, h2, fun q y v e1 e2 => (h3 q y v e1 e2).wide hF⟩
  | row T z α d l e c =>
    obtain ⟨xs, h1, h2, h3⟩ := h
    refine ⟨xs, h1, h2, fun q x hq => ?_⟩
    obtain ⟨k1, k2, k3⟩ := h3 q x hq
    exact ⟨k1, k2, fun k y hy => by obtain ⟨v, e1, e2⟩ := k3 k y hy; exact ⟨v, e1, e2.wide hF⟩⟩
  | itr l p => exact h
theorem BkRep.ren {i : Nat} {b : Bk} {G' : Gm} (h : BkRep F W G i b) (hi : G' i = G i) (hk : ∀ k, b.men k = true → G' k = G k) : BkRep F W G' i b := by
  cases b with
  | cells T l =>
    obtain ⟨c, h1, h2, h3⟩ := h
    exact ⟨c, by rw [hi]; exact h1, h2, fun q y v e1 e2 => (h3 q y v e1 e2).ren fun k hm => hk k (menL_of e1 hm)⟩
  | row T z α d l e c =>
    obtain ⟨xs, h1, h2, h3⟩ := h
    exact ⟨xs, by rw [hi]; exact h1, by rw [hi]; exact h2, h3⟩
  | itr l p => show _ = _; rw [hi]; exact h
theorem ob_ren {i : Nat} {b : Bk} {G' : Gm} (hi : G' i = G i) (g : Nat) : b.ob G' i g ↔ b.ob G i g := by
  cases b <;> simp only [Bk.ob, hi]

/-- A new block d, in place of block s, if any. -/
theorem RelG.fresh (hR : RelG w0 S m G F σ a W) {d : Nat} (hd : d < m) (hal : σ.al d = false) (s : Option Nat) (b : Bk) (p : Nat × Value) {v : V} {x : Value}
    (hW : BelX w0 W W') (hk : ∀ g, g < W.heap.size → (∀ i bb, s = some i → σ.bk i = some bb → ¬ bb.ob G i g) → W'.heap[g]? = W.heap[g]?)
    (hb : BkRep F W' (fun i => if i = d then p else G i) d b)
    (ho : ∀ g, b.ob (fun i => if i = d then p else G i) d g → g < W'.heap.size ∧ (W.heap.size ≤ g ∨ ∃ i bb, s = some i ∧ σ.bk i = some bb ∧ bb.ob G i g))
    (hv : Rep F W' (fun i => if i = d then p else G i) v x) (hvm : ∀ i, men v i = true → i = d ∨ σ.al i = true) (hbm : ∀ k, b.men k = true → σ.al k = true) :
    RelG w0 S m (fun i => if i = d then p else G i) F (σ.nw d v s b) (a.put (some d) x) W' := by
  have hF : ∀ g, F g → W'.heap[g]? = W.heap[g]? := fun g hg => hk g (hR.fin g hg).1 fun i bb _ h2 h3 => (hR.own i bb g h2 h3).2.2 hg
  have hG : ∀ i, σ.al i = true → (fun i => if i = d then p else G i) i = G i := fun i hi => by
    have : i ≠ d := fun e => by rw [e, hal] at hi; cases hi
    simp only [if_neg this]
  have hbd : ∀ i bb, σ.bk i = some bb → i ≠ d := fun i bb h e => by have := (hR.wfb i bb h).1; rw [e, hal] at this; cases this
  have hsame : ∀ i bb, σ.bk i = some bb → s ≠ some i → ∀ g, bb.ob G i g → W'.heap[g]? = W.heap[g]? := fun i bb h hs g hg =>
    hk g (hR.own i bb g h hg).2.1 fun i' bb' e1 e2 e3 => by
      have hii : i' ≠ i := fun e => hs (by rw [e1, e])
      exact hR.apart i' i bb' bb g hii e2 h e3 hg
  have old : ∀ i bb, (if s = some i then none else σ.bk i) = some bb → σ.bk i = some bb ∧ s ≠ some i := fun i bb h => by
    by_cases e : s = some i
    · rw [if_pos e] at h; cases h
    · rw [if_neg e] at h; exact ⟨h, e⟩
  refine ⟨hR.below.trans hW, by simp [Act.put, hR.size], fun t => ?_, fun i bb h => ?_, fun i bb g h hg => ?_, fun i i' bb bb' g hii h h' hg => ?_, fun g hg => ?_, hR.defers, fun t i h => ?_, fun i bb h => ?_, fun i A h => ⟨(hR.fix i A h).1, by have h1 := (hR.fix i A h).1; have h2 := hR.mlt; show (if i = d then p else G i) = A; rw [if_neg (by omega)]; exact (hR.fix i A h).2⟩, hR.mlt⟩
  · simp only [St.nw, Act.put]
    by_cases e : t = d
    · subst e
      rw [if_pos rfl]
      simpa [Array.getD_eq_getD_getElem?, hR.size, hd] using hv
    · rw [if_neg e]
      have := ((hR.slot t).keep hF).ren (G' := fun i => if i = d then p else G i) fun i hi => hG i (hR.wf t i hi)
      simpa [Array.getD_eq_getD_getElem?, Array.getElem?_setIfInBounds_ne (Ne.symm e)] using this
  · simp only [St.nw] at h
    by_cases e : i = d
    · rw [if_pos e] at h
      obtain rfl := Option.some.inj h
      rw [e]
      exact hb
    · rw [if_neg e] at h
      obtain ⟨h1, h2⟩ := old i bb h
      exact ((hR.blk i bb h1).keep hF (hsame i bb h1 h2)).ren (by simp only [if_neg e]) fun k hk => hG k ((hR.wfb i bb h1).2 k hk)
  · simp only [St.nw] at h
    by_cases e : i = d
    · rw [if_pos e] at h
      obtain rfl := Option.some.inj h
      rw [e] at hg
      obtain ⟨h1, h2⟩ := ho g hg
      rcases h2 with h2 | ⟨i', bb', e1, e2, e3⟩
      · exact ⟨.inl (Nat.le_trans hR.below.size h2), h1, fun hf => absurd (hR.fin g hf).1 (by omega)⟩
      · obtain ⟨k1, k2, k3⟩ := hR.own i' bb' g e2 e3
        exact ⟨k1, h1, k3⟩
    · rw [if_neg e] at h
      obtain ⟨h1, h2⟩ := old i bb h
      rw [ob_ren (G := G) (by simp only [if_neg e])] at hg
      obtain ⟨k1, k2, k3⟩ := hR.own i bb g h1 hg
      exact ⟨k1, Nat.lt_of_lt_of_le k2 hW.size, k3⟩
  · have key : ∀ i bb g, i ≠ d → (if s = some i then none else σ.bk i) = some bb → bb.ob G i g → ¬ b.ob (fun i => if i = d then p else G i) d g := by
      intro i bb g hid h1 h2 h3
      obtain ⟨k1, k2⟩ := old i bb h1
      rcases (ho g h3).2 with h4 | ⟨i', bb', e1, e2, e3⟩
      · exact absurd (hR.own i bb g k1 h2).2.1 (by omega)
      · exact hR.apart i' i bb' bb g (fun e => k2 (by rw [e1, e])) e2 k1 e3 h2
    simp only [St.nw] at h h'
    by_cases e : i = d
    · rw [if_pos e] at h
      obtain rfl := Option.some.inj h
      have e' : i' ≠ d := fun x => hii (by rw [e, x])
      rw [if_neg e'] at h'
      rw [e] at hg
      rw [ob_ren (G := G) (by simp only [if_neg e'])]
      exact fun h5 => key i' bb' g e' h' h5 hg
    · rw [if_neg e] at h
      rw [ob_ren (G := G) (by simp only [if_neg e])] at hg
      by_cases e' : i' = d
      · rw [if_pos e'] at h'
        obtain rfl := Option.some.inj h'
        rw [e']
        exact key i bb g e h hg
      · rw [if_neg e'] at h'
        rw [ob_ren (G := G) (by simp only [if_neg e'])]
        exact hR.apart i i' bb bb' g hii (old i bb h).1 (old i' bb' h').1 hg
  · obtain ⟨h1, h2⟩ := hR.fin g hg
    exact ⟨Nat.lt_of_lt_of_le h1 hW.size, h2⟩
  · simp only [St.nw] at h ⊢
    by_cases e : t = d
    · rw [if_pos e] at h
      rcases hvm i h with h1 | h1
      · simp [h1]
      · simp [h1]
    · rw [if_neg e] at h
      simp [hR.wf t i h]
  · simp only [St.nw] at h ⊢
    by_cases e : i = d
    · rw [if_pos e] at h
      obtain rfl := Option.some.inj h
      exact ⟨by simp [e], fun k hk => by simp [hbm k hk]⟩
    · rw [if_neg e] at h
      obtain ⟨h1, h2⟩ := old i bb h
      exact ⟨by simp [(hR.wfb i bb h1).1], fun k hk => by simp [(hR.wfb i bb h1).2 k hk]⟩

/-- A block is another one, in the same place. -/
theorem RelG.chg (hR : RelG w0 S m G F σ a W) (i : Nat) (b b' : Bk) (hbi : σ.bk i = some b) (hW : BelX w0 W W') (hk : ∀ g, g < W.heap.size → ¬ b.ob G i g → W'.heap[g]? = W.heap[g]?)
    (hb : BkRep F W' G i b') (ho : ∀ g, b'.ob G i g → b.ob G i g) (hbm : ∀ k, b'.men k = true → σ.al k = true) : RelG w0 S m G F (σ.setB i b') a W' := by
  have hF : ∀ g, F g → W'.heap[g]? = W.heap[g]? := fun g hg => hk g (hR.fin g hg).1 fun h3 => (hR.own i b g hbi h3).2.2 hg
  have hsame : ∀ k bb, σ.bk k = some bb → k ≠ i → ∀ g, bb.ob G k g → W'.heap[g]? = W.heap[g]? := fun k bb h hs g hg =>
    hk g (hR.own k bb g h hg).2.1 fun e3 => hR.apart i k b bb g (Ne.symm hs) hbi h e3 hg
  refine ⟨hR.below.trans hW, hR.size, fun t => (hR.slot t).keep hF, fun k bb h => ?_, fun k bb g h hg => ?_, fun k k' bb bb' g hii h h' hg => ?_, fun g hg => ?_, hR.defers, hR.wf, fun k bb h => ?_, hR.fix, hR.mlt⟩
  · simp only [St.setB] at h
    by_cases e : k = i
    · rw [if_pos e] at h
      obtain rfl := Option.some.inj h
      rw [e]
      exact hb
    · rw [if_neg e] at h
      exact (hR.blk k bb h).keep hF (hsame k bb h e)
  · simp only [St.setB] at h
    by_cases e : k = i
    · rw [if_pos e] at h
      obtain rfl := Option.some.inj h
      rw [e] at hg
      obtain ⟨k1, k2, k3⟩ := hR.own i b g hbi (ho g hg)
      exact ⟨k1, Nat.lt_of_lt_of_le k2 hW.size, k3⟩
    · rw [if_neg e] at h
      obtain ⟨k1, k2, k3⟩ := hR.own k bb g h hg
      exact ⟨k1, Nat.lt_of_lt_of_le k2 hW.size, k3⟩
  · simp only [St.setB] at h h'
    by_cases e : k = i
    · rw [if_pos e] at h
      obtain rfl := Option.some.inj h
      have e' : k' ≠ i := fun x => hii (by rw [e, x])
      rw [if_neg e'] at h'
      rw [e] at hg hii
      exact hR.apart i k' b bb' g hii hbi h' (ho g hg)
    · rw [if_neg e] at h
      by_cases e' : k' = i
      · rw [if_pos e'] at h'
        obtain rfl := Option.some.inj h'
        rw [e'] at hii ⊢
        exact fun h5 => hR.apart k i bb b g hii h hbi hg (ho g h5)
      · rw [if_neg e'] at h'
        exact hR.apart k k' bb bb' g hii h h' hg
  · obtain ⟨h1, h2⟩ := hR.fin g hg
    exact ⟨Nat.lt_of_lt_of_le h1 hW.size, h2⟩
  · simp only [St.setB] at h
    by_cases e : k = i
    · rw [if_pos e] at h
      obtain rfl := Option.some.inj h
      exact ⟨by rw [e]; exact (hR.wfb i b hbi).1, hbm⟩
    · rw [if_neg e] at h
      exact hR.wfb k bb h

/-- Behind a call. -/
theorem RelG.called (hR : RelG w0 S m G F σ a W) {d : Nat} (hd : d < m) (hW : Below W.heap.size W W') (F' : Nat → Prop) (hF' : ∀ g, F' g → g < W'.heap.size ∧ (W.heap.size ≤ g ∨ F g)) {r : V} {x : Value}
    (hr : Rep F' W' G0 r x) (hn : ∀ k, men r k = false) : RelG w0 S m G (fun g => F g ∨ F' g) (σ.put d r) (a.put (some d) x) W' := by
  have hF : ∀ g, F g → W'.heap[g]? = W.heap[g]? := fun g hg => hW.block g (hR.fin g hg).1
  have h0 : RelG w0 S m G (fun g => F g ∨ F' g) σ a W' := by
    refine ⟨hR.below.trans (.of hW hR.below.size), hR.size, fun t => ((hR.slot t).keep hF).wide fun g => .inl, fun i b h => ((hR.blk i b h).keep hF fun g hg => hW.block g (hR.own i b g h hg).2.1).wide fun g => .inl, fun i b g h hg => ?_, hR.apart, fun g hg => ?_, hR.defers, hR.wf, hR.wfb, hR.fix, hR.mlt⟩
    · obtain ⟨k1, k2, k3⟩ := hR.own i b g h hg
      refine ⟨k1, Nat.lt_of_lt_of_le k2 hW.size, fun h => ?_⟩
      rcases h with h | h
      · exact k3 h
      · rcases (hF' g h).2 with h | h
        · omega
        · exact k3 h
    · rcases hg with hg | hg
      · obtain ⟨h1, h2⟩ := hR.fin g hg
        exact ⟨Nat.lt_of_lt_of_le h1 hW.size, h2⟩
      · obtain ⟨h1, h2⟩ := hF' g hg
        refine ⟨h1, ?_⟩
        rcases h2 with h2 | h2
        · exact .inl (.inl (Nat.le_trans hR.below.size h2))
        · exact (hR.fin g h2).2
  exact h0.put ((hr.wide fun g => .inr).ren fun i hi => by rw [hn i] at hi; cases hi) (fun i hi => by rw [hn i] at hi; cases hi) d hd
end
end Go.Proofs.YtikmkgoeepgbkaaGreatDoor.Ev
namespace Go.Proofs.YtikmkgoeepgbkaaGreatDoor.Ev
open Go.RowKit
open Go.Proofs.YtikmkgoeepgbkaaGreatDoor.Mem
set_option linter.unusedVariables false

/-- What one cell holds. -/
def oneV : V → Bool
  | .ag _ => false
  | .tp _ => false
  | .j => false
  | _ => true
/-- How elements of a type are said. -/
structure Elp : Type 1 where
  z : Nat
  α : Type
  d : α
  e : α → V
  c : V → α
def zc (P : Program) (T : Nat) : Option (List V) := ((P.info? T).bind (·.zero)).map fun v => v.cells.toList.map ofV
def bys (P : Program) (T : Nat) : Option Nat := (P.info? T).map (·.bytes)
/-- A row's value that may hold this. -/
def okE {α : Type} (z : Nat) (e : α → V) (c : V → α) (v : V) : Prop := e (c v) = v ∧ (cs v).length = z ∧ ((cs v).all oneV = true ∧ ∀ k, men v k = false)

def xAlloc (P : Program) (T d : Nat) (σ : St) (k : St → Prop) : Prop := ∃ l, zc P T = some l ∧ σ.al d = false ∧ k (σ.nw d (.p d 0) none (.cells T l))
def xBox (T d : Nat) (x : V) (σ : St) (k : St → Prop) : Prop := (x ≠ .j ∧ σ.al d = false) ∧ k (σ.nw d (.p d 0) none (.cells T (cs x)))
def putV (l : List V) (off : Nat) (v : V) : List V := l.take off ++ cs v ++ l.drop (off + (cs v).length)
/-- An element of a row with some of its cells written. -/
def whV (z off : Nat) (old x : V) : V := if off = 0 ∧ (cs x).length = z then x else .ag (putV (cs old) off x)
def xStore (P : Program) (T : Nat) (p x : V) (σ : St) (k : St → Prop) : Prop := match p with
  | .p i off => match σ.bk i with
    | some (.cells T1 l) => (sz P T = some (cs x).length ∧ off + (cs x).length ≤ l.length ∧ (cs x).all oneV = true) ∧ k (σ.setB i (.cells T1 (putV l off x)))
    | _ => False
  | .pe q s i off => match σ.bk q with
    | some (.row T1 z α d l e c) => (sz P T = some (cs x).length ∧ s = z ∧ i < l.length ∧ off + (cs x).length ≤ z ∧ okE z e c (whV z off (e (l.getD i d)) x)) ∧ k (σ.setB q (.row T1 z α d (l.set i (c (whV z off (e (l.getD i d)) x))) e c))
    | _ => False
  | _ => False
def xMake (P : Program) (E : Nat → Option Elp) (T d : Nat) (n n' : V) (σ : St) (k : St → Prop) : Prop := match n, n' with
  | .n _ p, .n _ q => ∃ t h b, (sle P T = some t ∧ E t = some h ∧ bys P t = some b ∧ zc P t = some (cs (h.e h.d)) ∧ sz P t = some h.z) ∧ okE h.z h.e h.c (h.e h.d) ∧ ((p = q ∨ p = 0) ∧ 0 ≤ q ∧ (b : Int) * q ≤ 281474976710656 ∧ q ≤ 9223372036854775807 ∧ 0 < h.z) ∧ σ.al d = false ∧
      k (σ.nw d (.ow d p.toNat) none (.row t h.z h.α h.d (List.replicate p.toNat h.d) h.e h.c))
  | _, _ => False
def xLit (P : Program) (E : Nat → Option Elp) (T d n : Nat) (l : List V) (σ : St) (k : St → Prop) : Prop :=
  ∃ t h zl, (sle P T = some t ∧ E t = some h ∧ sz P t = some h.z ∧ zc P t = some zl ∧ zl.length = h.z) ∧ (n = l.length ∧ n * h.z ≤ 16777216 ∧ 0 < h.z) ∧ (∀ v ∈ l, okE h.z h.e h.c v) ∧ σ.al d = false ∧
    k (σ.nw d (.ow d n) none (.row t h.z h.α h.d (l.map h.c) h.e h.c))

section
variable {F : Nat → Prop} {W : World} {G : Gm} {x : Value}
theorem one_of {y : V} (h : Rep F W G y x) (ho : oneV y = true) : x.oneCell' = true := by
  cases h <;> first | rfl | (simp [oneV] at ho)
/-- The cells of what stands for a value stand for its cells. -/
theorem cells_rep {v : V} (h : Rep F W G v x) (hj : v ≠ .j) : x.cells.size = (cs v).length ∧ ∀ (q : Nat) (y : V) (u : Value), (cs v)[q]? = some y → x.cells[q]? = some u → Rep F W G y u := by
  cases h with
  | ag _ l vs hl hr => exact ⟨hl, hr⟩
  | j => exact absurd rfl hj
  | _ =>
    refine ⟨rfl, fun q y u h1 h2 => ?_⟩
    cases q with
    | succ q => simp [cs] at h1
    | zero =>
      simp only [cs, List.getElem?_cons_zero, Option.some.injEq] at h1
      simp only [Value.cells, List.getElem?_toArray, List.getElem?_cons_zero, Option.some.injEq] at h2
      subst h1
      subst h2
      first | assumption | (constructor <;> assumption) | constructor
end

def Eff (P : Program) (w0 : Bs) (S : Nat → Prop) (m : Nat) (o : Oper) (k : St → Prop) (a : Act) (W : World) : Prop :=
  ∀ (Kc : Act → World → Prop) (Q : Exit → Act → World → Prop), (∀ σ' a' W', k σ' → Rel w0 S m σ' a' W' → Kc a' W') → o.wp P a W Kc Q
section
variable {P : Program} {o : Oper} {w0 : Bs} {S : Nat → Prop} {m : Nat} {G : Gm} {F : Nat → Prop} {σ : St} {a : Act} {W W' : World} {k : St → Prop} {x y : Operand} {T d : Nat} {E : Nat → Option Elp}
theorem eff_value {σ' : St} {u : Value} (hr : (execOp a.eval o).run P W = .ok (.value u) W') (hk : k σ') (h : Rel w0 S m σ' (a.put o.dst u) W') : Eff P w0 S m o k a W := by
  intro Kc Q hK
  unfold Oper.wp
  rw [hr, Oper.upon_value]
  exact hK _ _ _ hk h
theorem eff_skip {σ' : St} (hr : (execOp a.eval o).run P W = .ok .skip W') (hk : k σ') (h : Rel w0 S m σ' (a.put o.dst undef) W') : Eff P w0 S m o k a W := by
  intro Kc Q hK
  unfold Oper.wp
  rw [hr, Oper.upon_skip]
  exact hK _ _ _ hk h
theorem eff_yd (hR : RelG w0 S m G F σ a W) (hd : o.dst = some d) (hdm : d < m) (h : Yd P σ.al F W G (fun v => k (σ.put d v)) ((execOp a.eval o).run P W)) : Eff P w0 S m o k a W := by
  obtain ⟨v, u, hk, hr, hv, hm⟩ := h
  refine eff_value hr hk ⟨G, F, ?_⟩
  rw [hd]
  exact hR.put hv hm d hdm
theorem below_alloc (hR : RelG w0 S m G F σ a W) (ob : Obj) : BelX w0 W (W.alloc ob) := .of ((Below.refl W.heap.size W).alloc (Nat.le_refl _) ob) hR.below.size
/-- A variable of one's own. -/
theorem RelG.newC (hR : RelG w0 S m G F σ a W) (hdm : d < m) (hal : σ.al d = false) (T : Nat) (c : Array Value) (l : List V) (hl : c.size = l.length) (hr : ∀ (q : Nat) (y : V) (v : Value), l[q]? = some y → c[q]? = some v → Rep F W G y v)
    (hm : ∀ i, menL l i = true → σ.al i = true) : Rel w0 S m (σ.nw d (.p d 0) none (.cells T l)) (a.put (some d) (.pointer (some ⟨W.heap.size, 0, none⟩))) (W.alloc (.cells c T)) := by
  have hF : ∀ g, F g → (W.alloc (.cells c T)).heap[g]? = W.heap[g]? := fun g hg => Below.heap_alloc W _ g (hR.fin g hg).1
  refine ⟨_, F, hR.fresh hdm hal none (.cells T l) (W.heap.size, .nilFunc) (below_alloc hR _) (fun g hg _ => Below.heap_alloc W _ g hg) ?_ ?_ ?_ ?_ hm⟩
  · refine ⟨c, ?_, hl, fun q y v h1 h2 => ?_⟩
    · simp only [if_true]
      exact Blk.new W c T
    · refine ((hr q y v h1 h2).keep hF).ren fun i hi => ?_
      have : i ≠ d := fun e => by have := hm i (menL_of h1 hi); rw [e, hal] at this; cases this
      simp only [if_neg this]
  · intro g hg
    simp only [Bk.ob, if_true] at hg
    subst hg
    exact ⟨by simp, .inl (Nat.le_refl _)⟩
  · have := Rep.p (F := F) (W := W.alloc (.cells c T)) (fun i => if i = d then (W.heap.size, Value.nilFunc) else G i) d 0
    simpa using this
  · intro i hi
    exact .inl (by simpa [men] using hi : d = i).symm
theorem alloc_ok (ho : o.op = .alloc T) (hd : o.dst = some d) (hdm : d < m) (hR : RelG w0 S m G F σ a W) (h : xAlloc P T d σ k) : Eff P w0 S m o k a W := by
  obtain ⟨l, h1, h2, h3⟩ := h
  unfold zc at h1
  cases hi : P.info? T with
  | none => rw [hi] at h1; cases h1
  | some inf =>
    rw [hi, Option.bind_some] at h1
    cases hz : inf.zero with
    | none => rw [hz] at h1; cases h1
    | some zv =>
      rw [hz, Option.map_some, Option.some.injEq] at h1
      subst h1
      have := hR.newC hdm h2 T zv.cells (zv.cells.toList.map ofV) (by simp) (fun q y v e1 e2 => by
        rw [List.getElem?_map] at e1
        simp only [Array.getElem?_toList, e2, Option.map_some, Option.some.injEq] at e1
        rw [← e1]
        exact ofV_rep v) (fun i hi => by
        have : ∀ l : List Value, menL (l.map ofV) i = false := by
          intro l
          induction l with
          | nil => rfl
          | cons v l ih => simp only [List.map_cons, menL, ofV_men, ih, Bool.or_false]
        rw [this] at hi
        cases hi)
      refine eff_value (u := .pointer (some ⟨W.heap.size, 0, none⟩)) (W' := W.alloc (.cells zv.cells T)) ?_ h3 (by rw [hd]; exact this)
      unfold execOp
      simp only [ho]
      simp [Instr.alloc, zeroValue, typeInfo, hi, hz, newVar, newRow]
theorem box_ok (ho : o.op = .box T x) (hd : o.dst = some d) (hdm : d < m) (hR : RelG w0 S m G F σ a W) (h : xBox T d (σ.rd x) σ k) : Eff P w0 S m o k a W := by
  obtain ⟨⟨h1, h2⟩, h3⟩ := h
  obtain ⟨p1, p2⟩ := cells_rep (hR.rd x) h1
  have := hR.newC hdm h2 T (a.eval x).cells (cs (σ.rd x)) p1 p2 fun i hi => hR.rd_men x i (by
    generalize σ.rd x = v at *
    cases v <;> first | exact hi | simpa [cs, menL] using hi)
  refine eff_value (u := .pointer (some ⟨W.heap.size, 0, none⟩)) (W' := W.alloc (.cells (a.eval x).cells T)) ?_ h3 (by rw [hd]; exact this)
  unfold execOp
  simp only [ho]
  simp [Instr.box, newVar, newRow]
theorem run_store_at {v : Value} {g off : Nat} {old : Array Value} {t : Nat} (hb : Blk W g old t) (ho : o.op = .store T x y) (hx : a.eval x = .pointer (some ⟨g, off, none⟩)) (hy : a.eval y = v) (hz : sz P T = some v.cells.size)
    (hold : off + v.cells.size ≤ old.size) (h1 : ∀ u ∈ v.cells.toList, u.oneCell' = true) : (execOp a.eval o).run P W = .ok .skip (W.setRow g (into old off v.cells)) := by
  have hst := storeCells_blk (P := P) g t v.cells.toList off 0 old W hb (by simpa using hold) h1
  obtain ⟨i, hq, hs⟩ := sz_und hz
  have hrun : (storeVar T ⟨g, off, none⟩ v).run P W = .ok () (W.setRow g (into old off v.cells)) := by
    simp only [Nat.add_zero] at hst
    simp [storeVar, sizeOf, typeInfo, hq, hs, hst, into]
  unfold execOp
  simp only [ho, hx, hy, Instr.storeAt, Instr.sureAddr, Sem.run_bind, Sem.run_pure, Result.andThen_ok, hrun]
theorem into_get {c v : Array Value} {off q : Nat} (h : off + v.size ≤ c.size) : (into c off v)[q]? = if q < off then c[q]? else if q < off + v.size then v[q - off]? else c[q]? := by
  unfold into
  simp only [List.getElem?_toArray]
  by_cases h1 : q < off
  · rw [if_pos h1, List.append_assoc, List.getElem?_append_left (by simp; omega), List.getElem?_take, if_pos h1, Array.getElem?_toList]
  · rw [if_neg h1]
    by_cases h2 : q < off + v.size
    · rw [if_pos h2, List.getElem?_append_left (by simp; omega), List.getElem?_append_right (by simp; omega)]
      simp only [List.length_take, Array.length_toList, Array.getElem?_toList]
      rw [Nat.min_eq_left (by omega)]
    · rw [if_neg h2, List.getElem?_append_right (by simp; omega), List.getElem?_drop, Array.getElem?_toList]
      simp only [List.length_append, List.length_take, Array.length_toList]
      rw [Nat.min_eq_left (by omega)]
      congr 1
      omega
theorem putV_get {l : List V} {off q : Nat} {v : V} (h : off + (cs v).length ≤ l.length) : (putV l off v)[q]? = if q < off then l[q]? else if q < off + (cs v).length then (cs v)[q - off]? else l[q]? := by
  unfold putV
  by_cases h1 : q < off
  · rw [if_pos h1, List.append_assoc, List.getElem?_append_left (by simp; omega), List.getElem?_take, if_pos h1]
  · rw [if_neg h1]
    by_cases h2 : q < off + (cs v).length
    · rw [if_pos h2, List.getElem?_append_left (by simp; omega), List.getElem?_append_right (by simp; omega)]
      simp only [List.length_take]
      rw [Nat.min_eq_left (by omega)]
    · rw [if_neg h2, List.getElem?_append_right (by simp; omega), List.getElem?_drop]
      simp only [List.length_append, List.length_take]
      rw [Nat.min_eq_left (by omega)]
      congr 1
      omega
theorem ones {v : V} {u : Value} (h : Rep F W G v u) (ho : (cs v).all oneV = true) : v ≠ .j ∧ ∀ c ∈ u.cells.toList, c.oneCell' = true := by
  have hj : v ≠ .j := fun e => by subst e; simp [cs, oneV] at ho
  obtain ⟨h1, h2⟩ := cells_rep h hj
  refine ⟨hj, fun c hc => ?_⟩
  obtain ⟨q, hq, e⟩ := List.getElem_of_mem hc
  have hq' : q < (cs v).length := by rw [← h1]; simpa using hq
  have hy : (cs v)[q]? = some ((cs v)[q]'hq') := List.getElem?_eq_getElem _
  have := h2 q _ c hy (by rw [← Array.getElem?_toList, List.getElem?_eq_getElem hq, e])
  exact one_of this (List.all_eq_true.1 ho _ (List.getElem_mem hq'))
theorem menL_cs {v : V} {i : Nat} (h : menL (cs v) i = true) : men v i = true := by
  cases v <;> first | exact h | simpa [cs, menL] using h
theorem menL_app (l l' : List V) (i : Nat) : menL (l ++ l') i = (menL l i || menL l' i) := by
  induction l with
  | nil => simp [menL]
  | cons v l ih => simp only [List.cons_append, menL, ih, Bool.or_assoc]
theorem cs_wh {z off : Nat} {old x : V} (h : off + (cs x).length ≤ z) (hz : (cs old).length = z) : cs (whV z off old x) = putV (cs old) off x := by
  unfold whV
  split
  · rename_i h1
    obtain ⟨rfl, h2⟩ := h1
    unfold putV
    rw [List.take_zero, List.nil_append, Nat.zero_add, List.drop_eq_nil_of_le (by omega), List.append_nil]
  · rfl
theorem setRow_get (g : Nat) (d : Array Value) (k : Nat) (h : k ≠ g) : (W.setRow g d).heap[k]? = W.heap[k]? := Go.setRow_other W g k d h
theorem store_ok (ho : o.op = .store T x y) (hd : o.dst = none) (hR : RelG w0 S m G F σ a W) (h : xStore P T (σ.rd x) (σ.rd y) σ k) : Eff P w0 S m o k a W := by
  have hx := hR.rd x
  have hy := hR.rd y
  have hym := hR.rd_men y
  generalize σ.rd x = vx at *
  generalize σ.rd y = vy at *
  have bel : ∀ g (d : Array Value), w0.may g → BelX w0 W (W.setRow g d) := fun g d hg =>
    .grown (grown_set W g d) hR.below.size (fun k hk => by obtain rfl := Option.some.inj hk; exact hg)
  unfold xStore at h
  split at h
  · rename_i i off
    split at h
    · rename_i T1 l hb
      obtain ⟨⟨h1, h2, h3⟩, h4⟩ := h
      obtain ⟨c, b1, b2, b3⟩ := hR.blk i _ hb
      obtain ⟨hj, h5⟩ := ones hy h3
      obtain ⟨p1, p2⟩ := cells_rep hy hj
      have hrun := run_store_at (P := P) b1 ho hx.p_inv rfl (by rw [h1, p1]) (by omega) h5
      have hsz := into_size c (a.eval y).cells off (by omega)
      have hown := hR.own i _ (G i).1 hb rfl
      have hF : ∀ g, F g → (W.setRow (G i).1 (into c off (a.eval y).cells)).heap[g]? = W.heap[g]? := fun g hg => setRow_get _ _ _ fun e => hown.2.2 (by rw [← e]; exact hg)
      refine eff_skip hrun h4 ?_
      rw [hd]
      refine ⟨G, F, hR.chg i _ _ hb (bel _ _ hown.1) (fun g _ hg => setRow_get _ _ _ hg) ⟨_, b1.set hsz, ?_, fun q yv v e1 e2 => ?_⟩ (fun g hg => hg) fun k hk => ?_⟩
      · rw [hsz, b2]
        simp [putV]
        omega
      · rw [putV_get h2] at e1
        rw [into_get (by omega)] at e2
        rw [p1] at e2
        by_cases c1 : q < off
        · rw [if_pos c1] at e1 e2; exact (b3 q yv v e1 e2).keep hF
        · rw [if_neg c1] at e1 e2
          by_cases c2 : q < off + (cs vy).length
          · rw [if_pos c2] at e1 e2; exact (p2 _ yv v e1 e2).keep hF
          · rw [if_neg c2] at e1 e2; exact (b3 q yv v e1 e2).keep hF
      · have hk : menL (putV l off vy) k = true := hk
        unfold putV at hk
        rw [menL_app, menL_app, Bool.or_eq_true, Bool.or_eq_true] at hk
        have hwf := (hR.wfb i _ hb).2 k
        rcases hk with (hk | hk) | hk
        · exact hwf (menL_drop (k := off) (n := 0) (by simpa using hk))
        · exact hym k (menL_cs hk)
        · refine hwf (menL_drop (k := l.length) (n := off + (cs vy).length) ?_)
          rw [List.take_of_length_le (by simp)]
          exact hk
    · exact h.elim
  · rename_i q s i off
    split at h
    · rename_i T1 z α d0 l e c hb
      obtain ⟨⟨h1, rfl, h3, h4z, h4a, h4b, h4c, h4d⟩, h5⟩ := h
      obtain ⟨xs, b1, b2, b3⟩ := hR.blk q _ hb
      obtain ⟨o1, o2, o3⟩ := b3 i (l.getD i d0) (by rw [List.getD_eq_getElem?_getD, List.getElem?_eq_getElem h3]; rfl)
      have hcs := cs_wh h4z o1
      generalize hwv : whV s off (e (l.getD i d0)) vy = wv at *
      have h4e : (cs vy).all oneV = true := by
        rw [hcs] at h4c
        unfold putV at h4c
        simp only [List.all_append, Bool.and_eq_true] at h4c
        exact h4c.1.2
      obtain ⟨hj, h6⟩ := ones hy h4e
      obtain ⟨p1, p2⟩ := cells_rep hy hj
      have hl : l.length * s ≤ xs.length := by rw [b1.1]; exact Nat.le_refl _
      have his : (i + 1) * s ≤ l.length * s := Nat.mul_le_mul_right s h3
      rw [Nat.add_mul, Nat.one_mul] at his
      rcases b1.2 with ⟨h8, h9⟩ | ⟨g, cap, cur, h8, k1, k2, k3, k4, k5, k6⟩
      · omega
      · have hgg := b2 g (by rw [h8]; rfl)
        have hcap : l.length * s ≤ cap * s := Nat.mul_le_mul_right s k3
        have hblk : Blk W g cur T1 := ⟨(0, 0), k2, .inl (Nat.le_refl _)⟩
        have hrun := run_store_at (P := P) hblk ho (by rw [hx.pe_inv, ← hgg]) rfl (by rw [h1, p1]) (by omega) h6
        have hsz := into_size cur (a.eval y).cells (i * s + off) (by omega)
        have hob : (Bk.row T1 s α d0 l e c).ob G q g := by show (G q).2.ownBlock = some g; rw [h8]; rfl
        have hown := hR.own q _ g hb hob
        have hF : ∀ g', F g' → (W.setRow g (into cur (i * s + off) (a.eval y).cells)).heap[g']? = W.heap[g']? := fun g' hg => setRow_get _ _ _ fun e => hown.2.2 (by rw [← e]; exact hg)
        refine eff_skip hrun h5 ?_
        rw [hd]
        have hset := hblk.set hsz
        obtain ⟨fz, hset1, _⟩ := hset
        have hheap : (W.setRow g (into cur (i * s + off) (a.eval y).cells)).heap[g]? = some (.cells (into cur (i * s + off) (a.eval y).cells) T1 (0, 0)) := setRow_heap _ _ _ _ _ _ k2
        have old : ∀ (t : Nat) (yv : V), t < s → (t < off ∨ off + (cs vy).length ≤ t) → (cs (e (l.getD i d0)))[t]? = some yv → ∃ v, ((into cur (i * s + off) (a.eval y).cells).toList.take (l.length * s))[i * s + t]? = some v ∧ Rep F (W.setRow g (into cur (i * s + off) (a.eval y).cells)) G0 yv v := fun t yv hts hto ht => by
          obtain ⟨v, e1, e2⟩ := o3 t yv ht
          refine ⟨v, ?_, e2.keep hF⟩
          rw [← k6, List.getElem?_take, if_pos (by omega), Array.getElem?_toList] at e1
          rw [List.getElem?_take, if_pos (by omega), Array.getElem?_toList, into_get (by omega)]
          rcases hto with hto | hto
          · rw [if_pos (by omega)]; exact e1
          · rw [if_neg (by omega), if_neg (by omega)]; exact e1
        refine ⟨G, F, hR.chg q _ _ hb (bel _ _ hown.1) (fun g' _ hg => setRow_get _ _ _ fun e => hg (by rw [e]; exact hob)) ⟨(into cur (i * s + off) (a.eval y).cells).toList.take (l.length * s), ⟨?_, .inr ⟨g, cap, _, ?_, k1, hheap, ?_, k4, by rw [hsz, k5], ?_⟩⟩, b2, fun j xv hj => ?_⟩ (fun g hg => hg) fun k hk => by cases hk⟩
        · simp only [List.length_set, List.length_take, Array.length_toList, hsz]; omega
        · rw [List.length_set]; exact h8
        · rw [List.length_set]; exact k3
        · rw [List.length_set]
        · have hjl : j < l.length := by have := (List.getElem?_eq_some_iff.1 hj).1; simpa using this
          by_cases hji : j = i
          · subst hji
            rw [List.getElem?_set_self hjl, Option.some.injEq] at hj
            subst hj
            rw [h4a]
            refine ⟨h4b, h4d, fun t yv ht => ?_⟩
            have htl : t < s := by rw [← h4b]; exact (List.getElem?_eq_some_iff.1 ht).1
            have ht0 := ht
            rw [hcs, putV_get (by rw [o1]; exact h4z)] at ht
            by_cases c1 : t < off
            · rw [if_pos c1] at ht; exact old t yv htl (.inl c1) ht
            · rw [if_neg c1] at ht
              by_cases c2 : t < off + (cs vy).length
              · rw [if_pos c2] at ht
                refine ⟨(a.eval y).cells.getD (t - off) undef, ?_, ?_⟩
                · rw [List.getElem?_take, if_pos (by omega), Array.getElem?_toList, into_get (by omega), if_neg (by omega), if_pos (by omega), show j * s + t - (j * s + off) = t - off by omega, Array.getD_eq_getD_getElem?, Array.getElem?_eq_getElem (by omega)]
                  rfl
                · refine ((p2 (t - off) yv _ ht ?_).keep hF).ren fun i hi => by rw [men_cs' h4d ht0 i] at hi; cases hi
                  rw [Array.getD_eq_getD_getElem?, Array.getElem?_eq_getElem (by omega)]
                  rfl
              · rw [if_neg c2] at ht; exact old t yv htl (.inr (by omega)) ht
          · rw [List.getElem?_set_ne (Ne.symm hji)] at hj
            obtain ⟨r1, r2, r3⟩ := b3 j xv hj
            refine ⟨r1, r2, fun t yv ht => ?_⟩
            obtain ⟨v, e1, e2⟩ := r3 t yv ht
            refine ⟨v, ?_, e2.keep hF⟩
            have htl : t < s := by rw [← r1]; exact (List.getElem?_eq_some_iff.1 ht).1
            have hjs : (j + 1) * s ≤ l.length * s := Nat.mul_le_mul_right s hjl
            rw [Nat.add_mul, Nat.one_mul] at hjs
            rw [← k6, List.getElem?_take, if_pos (by omega)] at e1
            rw [List.getElem?_take, if_pos (by omega), Array.getElem?_toList, into_get (by omega)]
            rw [Array.getElem?_toList] at e1
            rcases Nat.lt_or_ge j i with hlt | hge
            · have : (j + 1) * s ≤ i * s := Nat.mul_le_mul_right s hlt
              rw [Nat.add_mul, Nat.one_mul] at this
              rw [if_pos (by omega)]
              exact e1
            · have : (i + 1) * s ≤ j * s := Nat.mul_le_mul_right s (by omega)
              rw [Nat.add_mul, Nat.one_mul] at this
              rw [if_neg (by omega), if_neg (by omega)]
              exact e1
    · exact h.elim
  · exact h.elim
end
/-! ### Interface values -/
def cncT (P : Program) (T : Nat) : Bool := match P.underlying T with
  | some (.interface _) => false
  | some _ => true
  | none => false
/-- A type's zero value. -/
def zv (P : Program) (T : Nat) : V := match (P.info? T).bind (·.zero) with
  | some (.agg vs) => .ag (vs.toList.map ofV)
  | some v => ofV v
  | none => .j
def vAst (P : Program) (T : Nat) (ok : Bool) (x : V) (K : V → Prop) : Prop := match x with
  | .it t v => cncT P T = true ∧ ((t = T → K (bif ok then .tp [v, .b true] else v)) ∧ (t ≠ T → (ok = true ∧ (zc P T).isSome = true) ∧ K (.tp [zv P T, .b false])))
  | .inil => (cncT P T = true ∧ ok = true ∧ (zc P T).isSome = true) ∧ K (.tp [zv P T, .b false])
  | _ => False
def vMkI (P : Program) (T : Nat) (x : V) (K : V → Prop) : Prop := P.concrete T = true ∧ K (.it T x)
section
variable {P : Program} {o : Oper} {w0 : Bs} {S : Nat → Prop} {m : Nat} {G : Gm} {F : Nat → Prop} {σ : St} {a : Act} {W W' : World} {k : St → Prop} {K : V → Prop} {x y : Operand} {T T' d : Nat} {E : Nat → Option Elp} {u : Value} {v : V}
theorem Rep.it_inv {t : Nat} (h : Rep F W G (.it t v) u) : ∃ x, u = .iface t x ∧ Rep F W G v x := by cases h; exact ⟨_, rfl, by assumption⟩
theorem menL_ofV (l : List Value) (i : Nat) : menL (l.map ofV) i = false := by
  induction l with
  | nil => rfl
  | cons v l ih => simp only [List.map_cons, menL, ofV_men, ih, Bool.or_false]
theorem zv_men (i : Nat) : men (zv P T) i = false := by
  unfold zv
  split
  · simp only [men, menL_ofV]
  · exact ofV_men _ _
  · rfl
theorem zc_run (h : (zc P T).isSome = true) (W : World) : ∃ z, (zeroValue T).run P W = .ok z W ∧ ∀ F W G, Rep F W G (zv P T) z := by
  unfold zc at h
  cases hi : P.info? T with
  | none => rw [hi] at h; cases h
  | some inf =>
    rw [hi, Option.bind_some] at h
    cases hz : inf.zero with
    | none => rw [hz] at h; cases h
    | some z =>
      refine ⟨z, by simp [zeroValue, typeInfo, hi, hz], fun F W G => ?_⟩
      have e : (P.info? T).bind (·.zero) = some z := by rw [hi, Option.bind_some, hz]
      unfold zv
      rw [e]
      split
      · rename_i vs e2
        rw [Option.some.injEq] at e2
        subst e2
        refine .ag _ _ _ (by simp) fun q y v h1 h2 => ?_
        rw [List.getElem?_map] at h1
        simp only [Array.getElem?_toList, h2, Option.map_some, Option.some.injEq] at h1
        rw [← h1]
        exact ofV_rep v
      · rename_i v _ e2
        rw [Option.some.injEq] at e2
        subst e2
        exact ofV_rep _
      · rename_i e2; cases e2
theorem cnc_run {A : Type} (h : cncT P T = true) : ∃ d, P.underlying T = some d ∧ ∀ ms, d ≠ .interface ms := by
  unfold cncT at h
  split at h
  · cases h
  · rename_i e; exact ⟨_, e, fun ms e2 => by simp_all⟩
  · cases h
theorem ast_yes {c : Bool} (h : cncT P T = true) (z : Value) (W : World) : (Instr.typeAssert (.iface T z) T' T c).run P W = .ok (if c then .tuple #[z, .bool true] else z) W := by
  obtain ⟨d, h1, h2⟩ := cnc_run (A := Unit) h
  unfold Instr.typeAssert
  simp only [Sem.run_bind, run_underlying h1, Result.andThen_ok]
  cases d <;> first | exact absurd rfl (h2 _) | simp
theorem ast_no {c t : Nat} (h : cncT P T = true) (hc : t ≠ T) (hz : (zc P T).isSome = true) (z : Value) (W : World) : ∃ q, (Instr.typeAssert (.iface t z) T' T true).run P W = .ok (.tuple #[q, .bool false]) W ∧ ∀ F W G, Rep F W G (zv P T) q := by
  obtain ⟨d, h1, h2⟩ := cnc_run (A := Unit) h
  obtain ⟨q, hq, hp⟩ := zc_run hz W
  refine ⟨q, ?_, hp⟩
  unfold Instr.typeAssert
  simp only [Sem.run_bind, run_underlying h1, Result.andThen_ok]
  cases d <;> first | exact absurd rfl (h2 _) | simp [hc, hq]
theorem ast_nil (h : cncT P T = true) (hz : (zc P T).isSome = true) (W : World) : ∃ q, (Instr.typeAssert .nilIface T' T true).run P W = .ok (.tuple #[q, .bool false]) W ∧ ∀ F W G, Rep F W G (zv P T) q := by
  obtain ⟨d, h1, h2⟩ := cnc_run (A := Unit) h
  obtain ⟨q, hq, hp⟩ := zc_run hz W
  refine ⟨q, ?_, hp⟩
  unfold Instr.typeAssert
  simp only [Sem.run_bind, run_underlying h1, Result.andThen_ok]
  cases d <;> first | exact absurd rfl (h2 _) | simp [hq]
theorem tp_no {q : Value} (h : Rep F W G v q) : Rep F W G (.tp [v, .b false]) (.tuple #[q, .bool false]) := by
  refine .tp _ _ _ rfl fun i y v h1 h2 => ?_
  rcases i with _ | _ | i
  · simp at h1 h2; subst h1; subst h2; exact h
  · simp at h1 h2; subst h1; subst h2; exact .b _ _
  · simp at h1
theorem tp_yes {z : Value} (h : Rep F W G v z) : Rep F W G (.tp [v, .b true]) (.tuple #[z, .bool true]) := by
  refine .tp _ _ _ rfl fun i y v h1 h2 => ?_
  rcases i with _ | _ | i
  · simp at h1 h2; subst h1; subst h2; exact h
  · simp at h1 h2; subst h1; subst h2; exact .b _ _
  · simp at h1
theorem ast_ok {ok : Bool} (ho : o.op = .typeAssert x T' T ok) (hR : RelG w0 S m G F σ a W) (h : vAst P T ok (σ.rd x) K) : Yd P σ.al F W G K ((execOp a.eval o).run P W) := by
  have hx := hR.rd x
  have hm := hR.rd_men x
  generalize σ.rd x = vx at *
  have hrun : ∀ {r : Value}, (Instr.typeAssert (a.eval x) T' T ok).run P W = .ok r W → (execOp a.eval o).run P W = .ok (.value r) W := fun {r} e => by
    unfold execOp
    simp only [ho]
    simp only [Sem.run_bind, e]
    rfl
  unfold vAst at h
  split at h
  · rename_i t v
    obtain ⟨h1, h2, h3⟩ := h
    obtain ⟨z, e1, hz⟩ := hx.it_inv
    by_cases ht : t = T
    · subst ht
      have h4 := h2 rfl
      have := ast_yes (c := ok) (T' := T') h1 z W
      rw [← e1] at this
      refine ⟨_, _, h4, hrun this, ?_, fun i hi => hm i ?_⟩
      · cases ok with
        | true => exact tp_yes hz
        | false => exact hz
      · cases ok with
        | true => simpa [men, menL] using hi
        | false => simpa [men] using hi
    · obtain ⟨⟨rfl, h5⟩, h6⟩ := h3 ht
      obtain ⟨q, hq, hp⟩ := ast_no (c := 0) (T' := T') h1 ht h5 z W
      rw [← e1] at hq
      exact ⟨_, _, h6, hrun hq, tp_no (hp _ _ _), fun i hi => by simp [men, menL, zv_men] at hi⟩
  · obtain ⟨⟨h1, rfl, h5⟩, h6⟩ := h
    obtain ⟨q, hq, hp⟩ := ast_nil (T' := T') h1 h5 W
    rw [← hx.inil_inv] at hq
    exact ⟨_, _, h6, hrun hq, tp_no (hp _ _ _), fun i hi => by simp [men, menL, zv_men] at hi⟩
  · exact h.elim
def vNil (x : V) (K : V → Prop) : Prop := match x with
  | .p i o => K (.p i o)
  | .pe i z q o => K (.pe i z q o)
  | .px v => K (.px v)
  | _ => False
theorem nil_ok (ho : o.op = .nilCheck x) (hR : RelG w0 S m G F σ a W) (h : vNil (σ.rd x) K) : Yd P σ.al F W G K ((execOp a.eval o).run P W) := by
  have hx := hR.rd x
  have hm := hR.rd_men x
  generalize σ.rd x = vx at *
  unfold vNil at h
  split at h
  all_goals first
    | exact h.elim
    | (refine yd_v h ?_ hx hm
       generalize hu : a.eval x = u at hx ⊢
       cases hx
       unfold execOp
       simp only [ho, hu]
       rfl)
theorem mki_ok (ho : o.op = .makeInterface T x) (hR : RelG w0 S m G F σ a W) (h : vMkI P T (σ.rd x) K) : Yd P σ.al F W G K ((execOp a.eval o).run P W) := by
  obtain ⟨h1, h2⟩ := h
  refine ⟨_, _, h2, ?_, .it _ _ _ _ (hR.rd x), fun i hi => hR.rd_men x i (by simpa [men] using hi)⟩
  have e := run_makeInterface (P := P) (w := W) T (a.eval x) h1
  unfold execOp
  simp only [ho]
  simp only [Sem.run_bind, e]
  rfl
end
/-! ### A range over a text -/
/-- The rune at a place of a text, and how many bytes it has. -/
def dec (s : List UInt8) (i : Nat) : Nat × Nat := Utf8.decode (tx s) i
theorem dec_pos (s : List UInt8) (i : Nat) : 1 ≤ (dec s i).2 ∧ (dec s i).2 ≤ 4 := by
  unfold dec Utf8.decode
  dsimp only
  repeat' split
  all_goals exact ⟨by simp, by simp⟩
theorem dec_le (s : List UInt8) (i : Nat) (h : i < s.length) : i + (dec s i).2 ≤ s.length := by
  unfold dec Utf8.decode
  dsimp only
  rw [show (tx s).size = s.length from tx_size s]
  repeat' split
  all_goals first | (simp_all; omega) | (simp_all)
theorem dec_max (s : List UInt8) (i : Nat) : (dec s i).1 ≤ 1114111 := by
  unfold dec Utf8.decode Utf8.runeError
  dsimp only
  repeat' split
  all_goals simp_all [Utf8.valid]
  all_goals omega
def xRange (P : Program) (T d : Nat) (x : V) (σ : St) (k : St → Prop) : Prop := match x with
  | .s l => (strT P T = true ∧ σ.al d = false) ∧ k (σ.nw d (.p d 0) none (.itr l 0))
  | _ => False
def xNext (d : Nat) (x : V) (σ : St) (k : St → Prop) : Prop := match x with
  | .p i 0 => match σ.bk i with
    | some (.itr l p) => (p < l.length → k ((σ.setB i (.itr l (p + (dec l p).2))).put d (.tp [.b true, .n .i64 (p : Int), .n .i32 ((dec l p).1 : Int)]))) ∧ (¬ p < l.length → k (σ.put d (.tp [.b false])))
    | _ => False
  | _ => False
section
variable {P : Program} {o : Oper} {w0 : Bs} {S : Nat → Prop} {m : Nat} {G : Gm} {F : Nat → Prop} {σ : St} {a : Act} {W W' : World} {k : St → Prop} {x y : Operand} {T d : Nat}
theorem range_ok (ho : o.op = .range T x) (hd : o.dst = some d) (hdm : d < m) (hR : RelG w0 S m G F σ a W) (h : xRange P T d (σ.rd x) σ k) : Eff P w0 S m o k a W := by
  have hx := hR.rd x
  generalize σ.rd x = vx at *
  unfold xRange at h
  split at h
  · rename_i l
    obtain ⟨⟨h1, h2⟩, h3⟩ := h
    have key : RelG w0 S m (fun i => if i = d then (W.heap.size, Value.nilFunc) else G i) F (σ.nw d (.p d 0) none (.itr l 0)) (a.put (some d) (.pointer (some ⟨W.heap.size, 0, none⟩))) (W.iter (tx l) 0) := by
      refine hR.fresh hdm h2 none (.itr l 0) (W.heap.size, .nilFunc) (below_alloc hR _) (fun g hg _ => Below.heap_alloc W _ g hg) ?_ ?_ ?_ ?_ (fun k hk => by cases hk)
      · show _ = _
        simp only [if_true]
        exact World.iter_heap W (tx l) 0
      · intro g hg
        simp only [Bk.ob, if_true] at hg
        subst hg
        exact ⟨by simp [World.iter], .inl (Nat.le_refl _)⟩
      · have := Rep.p (F := F) (W := W.iter (tx l) 0) (fun i => if i = d then (W.heap.size, Value.nilFunc) else G i) d 0
        simpa using this
      · intro i hi
        exact .inl (by simpa [men] using hi : d = i).symm
    refine eff_value (u := .pointer (some ⟨W.heap.size, 0, none⟩)) (W' := W.iter (tx l) 0) ?_ h3 ⟨_, F, by rw [hd]; exact key⟩
    have e := run_range_string (P := P) W T (tx l) (strT_some h1)
    unfold execOp
    simp only [ho, hx.s_inv]
    simp only [Sem.run_bind, e]
    rfl
  · exact h.elim
theorem next_ok (ho : o.op = .next x true) (hd : o.dst = some d) (hdm : d < m) (hR : RelG w0 S m G F σ a W) (h : xNext d (σ.rd x) σ k) : Eff P w0 S m o k a W := by
  have hx := hR.rd x
  generalize σ.rd x = vx at *
  unfold xNext at h
  split at h
  · rename_i i
    split at h
    · rename_i l p hb
      have hg : W.heap[(G i).1]? = some (.stringIter (tx l) p) := hR.blk i _ hb
      have hlt : (G i).1 < W.heap.size := (Array.getElem?_eq_some_iff.1 hg).1
      have hown := hR.own i _ (G i).1 hb rfl
      by_cases hp : p < l.length
      · have h1 := h.1 hp
        have hrun : (Instr.next (.pointer (some ⟨(G i).1, 0, none⟩)) true o.type).run P W = .ok (.tuple #[.bool true, .int .i64 (p : Int), .int .i32 ((dec l p).1 : Int)]) { W with heap := W.heap.setIfInBounds (G i).1 (.stringIter (tx l) (p + (dec l p).2)) } := by
          have hp' : p < (tx l).size := by rw [tx_size]; exact hp
          simp only [Instr.next, getObj, setObj, Sem.run_bind, Sem.run, hg, Result.andThen, hp', if_true]
          unfold dec goInt
          rfl
        have hch : RelG w0 S m G F (σ.setB i (.itr l (p + (dec l p).2))) a { W with heap := W.heap.setIfInBounds (G i).1 (.stringIter (tx l) (p + (dec l p).2)) } := by
          refine hR.chg i _ _ hb ⟨rfl, rfl, rfl, by simp, fun g hg => ?_⟩ (fun g _ hg => ?_) ?_ (fun g hg => hg) (fun k hk => by cases hk)
          · show (W.heap.setIfInBounds _ _)[g]? = _
            rw [Array.getElem?_setIfInBounds_ne (fun e => hg (by rw [← e]; exact hown.1))]
          · show (W.heap.setIfInBounds _ _)[g]? = _
            rw [Array.getElem?_setIfInBounds_ne (fun e => hg (by rw [← e]; rfl))]
          · show (W.heap.setIfInBounds _ _)[(G i).1]? = _
            rw [Array.getElem?_setIfInBounds_self_of_lt hlt]
        have hput := hch.put (v := .tp [.b true, .n .i64 (p : Int), .n .i32 ((dec l p).1 : Int)]) (x := .tuple #[.bool true, .int .i64 (p : Int), .int .i32 ((dec l p).1 : Int)]) (by
          refine .tp _ _ _ rfl fun q y v e1 e2 => ?_
          rcases q with _ | _ | _ | q
          · simp at e1 e2; subst e1; subst e2; exact .b _ _
          · simp at e1 e2; subst e1; subst e2; exact .n _ _ _
          · simp at e1 e2; subst e1; subst e2; exact .n _ _ _
          · simp at e1) (fun i hi => by simp [men, menL] at hi) d hdm
        refine eff_value ?_ h1 ⟨G, F, by rw [hd]; exact hput⟩
        unfold execOp
        simp only [ho, hx.p_inv, Sem.run_bind, hrun]
        rfl
      · have h1 := h.2 hp
        have hrun : (Instr.next (.pointer (some ⟨(G i).1, 0, none⟩)) true o.type).run P W = .ok (.tuple #[.bool false]) W := by
          have hp' : ¬ p < (tx l).size := by rw [tx_size]; exact hp
          simp only [Instr.next, getObj, Sem.run_bind, Sem.run, hg, Result.andThen, hp', if_false]
          rfl
        have hput := hR.put (v := .tp [.b false]) (x := .tuple #[.bool false]) (by
          refine .tp _ _ _ rfl fun q y v e1 e2 => ?_
          rcases q with _ | q
          · simp at e1 e2; subst e1; subst e2; exact .b _ _
          · simp at e1) (fun i hi => by simp [men, menL] at hi) d hdm
        refine eff_value ?_ h1 ⟨G, F, by rw [hd]; exact hput⟩
        unfold execOp
        simp only [ho, hx.p_inv, Sem.run_bind, hrun]
        rfl
    · exact h.elim
  · exact h.elim
end
end Go.Proofs.YtikmkgoeepgbkaaGreatDoor.Ev
namespace Go.Proofs.YtikmkgoeepgbkaaGreatDoor.Ev
open Go.RowKit
open Go.Proofs.YtikmkgoeepgbkaaGreatDoor.Mem
set_option linter.unusedVariables false

def vSrc (bk : Nat → Option Bk) (x : V) (K : Nat → (α : Type) → List α → (α → V) → Prop) : Prop := match x with
  | .sl z α _ l e => K z α l e
  | .ow i n => match bk i with
    | some (.row _ z α _ l e _) => n = l.length ∧ K z α l e
    | _ => False
  | _ => False
def appK (P : Program) (E : Nat → Option Elp) (T d : Nat) (s : V) (σ : St) (k : St → Prop) (z2 : Nat) (α2 : Type) (l2 : List α2) (e2 : α2 → V) : Prop := match s with
  | .ow i n => match σ.bk i with
    | some (.row t z α d0 l e c) => (∃ b zl, sle P T = some t ∧ sz P t = some z ∧ bys P t = some b ∧ zc P t = some zl ∧ zl.length = z ∧ b ≤ 4096 ∧ (l.length + l2.length) * b ≤ 180000000000000) ∧ (z2 = z ∧ 0 < z ∧ n = l.length ∧ l.length + l2.length ≤ 9223372036854775807) ∧
        (∀ v ∈ l2, okE z e c (e2 v)) ∧ σ.al d = false ∧ k (σ.nw d (.ow d (l.length + l2.length)) (some i) (.row t z α d0 (l ++ l2.map fun v => c (e2 v)) e c))
    | _ => False
  | .nl => ∃ t h b zl, (sle P T = some t ∧ E t = some h ∧ sz P t = some h.z ∧ bys P t = some b ∧ zc P t = some zl ∧ zl.length = h.z ∧ b ≤ 4096 ∧ l2.length * b ≤ 180000000000000) ∧ (z2 = h.z ∧ 0 < h.z ∧ l2.length ≤ 9223372036854775807) ∧
        (∀ v ∈ l2, okE h.z h.e h.c (e2 v)) ∧ σ.al d = false ∧ k (σ.nw d (.ow d l2.length) none (.row t h.z h.α h.d (l2.map fun v => h.c (e2 v)) h.e h.c))
  | _ => False
def xAppend (P : Program) (E : Nat → Option Elp) (T d : Nat) (s x : V) (σ : St) (k : St → Prop) : Prop := vSrc σ.bk x (appK P E T d s σ k)
/-- The zero of a type. -/
def zi (P : Program) (T : Nat) : Option Value := (P.info? T).bind (·.zero)
def lenV : V → Nat
  | .ow _ n => n
  | _ => 0
/-- What is asked where a text is put behind a row of bytes. -/
def apS (P : Program) (T T' : Nat) (s : V) (l : List UInt8) : Prop := (strT P T' = true ∧ match sle P T with
  | some t => bys P t = some 1 ∧ sz P t = some 1 ∧ zi P t = some (.int .u8 0)
  | none => False) ∧ lenV s + l.length ≤ 140737488355328
/-- What is put behind a row. -/
def vSrcG (P : Program) (T T' : Nat) (bk : Nat → Option Bk) (s x : V) (K : Nat → (α : Type) → List α → (α → V) → Prop) : Prop := match x with
  | .s l => apS P T T' s l ∧ K 1 UInt8 l eB
  | x => T = T' ∧ vSrc bk x K

section
variable {P : Program} {o : Oper} {w0 : Bs} {S : Nat → Prop} {m : Nat} {G : Gm} {F : Nat → Prop} {σ : St} {a : Act} {W W' : World} {k : St → Prop} {x y : Operand} {T d : Nat} {E : Nat → Option Elp}
theorem zc_some {l : List V} (h : zc P T = some l) : ∃ inf zv, P.info? T = some inf ∧ inf.zero = some zv ∧ zv.cells.toList.map ofV = l := by
  unfold zc at h
  cases hi : P.info? T with
  | none => rw [hi] at h; cases h
  | some inf =>
    rw [hi, Option.bind_some] at h
    cases hz : inf.zero with
    | none => rw [hz] at h; cases h
    | some zv =>
      rw [hz, Option.map_some, Option.some.injEq] at h
      exact ⟨inf, zv, rfl, hz, h⟩
theorem bys_some {b : Nat} (h : bys P T = some b) : ∃ inf, P.info? T = some inf ∧ inf.bytes = b := by
  unfold bys at h
  cases e : P.info? T with
  | none => rw [e] at h; cases h
  | some i => rw [e] at h; exact ⟨i, rfl, Option.some.inj h⟩
/-- A row of one's own that is new. -/
theorem RelG.newR (hR : RelG w0 S m G F σ a W) (hdm : d < m) (hal : σ.al d = false) (s : Option Nat) {T z n : Nat} {α : Type} {d0 : α} {l : List α} {e : α → V} {c : V → α} {v : Value} {xs : List Value} (hn : n = l.length) (hlen : W.heap.size ≤ W'.heap.size)
    (hW : BelX w0 W W') (hk : ∀ g, g < W.heap.size → (∀ i bb, s = some i → σ.bk i = some bb → ¬ bb.ob G i g) → W'.heap[g]? = W.heap[g]?) (hrow : W'.ownsRow 0 T z v l.length xs)
    (ho : ∀ g, v.ownBlock = some g → W.heap.size ≤ g ∨ ∃ i bb, s = some i ∧ σ.bk i = some bb ∧ bb.ob G i g)
    (hx : ∀ (q : Nat) (x : α), l[q]? = some x → (cs (e x)).length = z ∧ (∀ k, men (e x) k = false) ∧ ∀ (k : Nat) (y : V), (cs (e x))[k]? = some y → ∃ v, xs[q * z + k]? = some v ∧ Rep F W' G0 y v) :
    Rel w0 S m (σ.nw d (.ow d n) s (.row T z α d0 l e c)) (a.put (some d) v) W' := by
  subst hn
  have hform : ∃ ao cap, v = .slice ao l.length cap := by
    rcases hrow.2 with ⟨rfl, h⟩ | ⟨g, cap, cur, rfl, _⟩
    · exact ⟨none, 0, by rw [h]⟩
    · exact ⟨_, _, rfl⟩
  obtain ⟨ao, cap, hv⟩ := hform
  refine ⟨_, F, hR.fresh hdm hal s _ (v.ownBlock.getD 0, v) hW hk ⟨xs, ?_, ?_, hx⟩ ?_ ?_ ?_ (fun k hk => by cases hk)⟩
  · simp only [if_true]; exact hrow
  · simp only [if_true]
    intro g hg
    rw [hg]; rfl
  · intro g hg
    simp only [Bk.ob, if_true] at hg
    exact ⟨(hrow.lt g hg).2, ho g hg⟩
  · rw [hv]
    exact .ow _ _ _ _ _ (by simp)
  · intro i hi
    exact .inl (by simpa [men] using hi : d = i).symm
theorem make_ok (ho : o.op = .makeSlice T x y) (hd : o.dst = some d) (hdm : d < m) (hR : RelG w0 S m G F σ a W) (h : xMake P E T d (σ.rd x) (σ.rd y) σ k) : Eff P w0 S m o k a W := by
  have hx := hR.rd x
  have hy := hR.rd y
  generalize σ.rd x = vx at *
  generalize σ.rd y = vy at *
  unfold xMake at h
  split at h
  · rename_i k1 p k2 q
    obtain ⟨t, h, b, ⟨h1, h2, h3, h4, h5⟩, ⟨h6a, h6b, h6c, h6d⟩, ⟨hpq, h7, h8, h9, h10⟩, h11, h12⟩ := h
    obtain ⟨inf, zv, hi, hz, hzl⟩ := zc_some h4
    obtain ⟨inf', hi', hb⟩ := bys_some h3
    obtain ⟨inf2, hi2, hs⟩ := sz_und h5
    rw [hi] at hi' hi2
    obtain rfl := Option.some.inj hi'
    obtain rfl := Option.some.inj hi2
    obtain ⟨n, rfl⟩ := Int.eq_ofNat_of_zero_le h7
    by_cases h0 : p = 0
    · subst h0
      have hr := run_make (P := P) W T t inf zv (sle_some h1) hi hz k1 k2 0 n (by omega) (by omega) (by rw [hb]; exact h8) (by omega)
      simp only [Int.toNat_natCast, Int.toNat_zero] at hr
      rw [hs] at hr
      have hown : (W.alloc (.cells (madeCells zv.cells (n * h.z)) t)).ownsRow W.heap.size t h.z (.slice (some ⟨W.heap.size, 0, none⟩) 0 n) 0 [] :=
        World.ownsRow_made W _ n (Nat.le_refl _) (by unfold maxLen; omega) (size_madeCells _ _)
      refine eff_value (u := .slice (some ⟨W.heap.size, 0, none⟩) 0 n) (W' := W.alloc (.cells (madeCells zv.cells (n * h.z)) t)) ?_ h12 ?_
      · unfold execOp
        simp only [ho, hx.n_inv, hy.n_inv, Sem.run_bind, hr, Result.andThen_ok]
        rfl
      · rw [hd]
        simp only [Int.toNat_zero, List.replicate_zero]
        refine hR.newR (n := 0) hdm h11 none rfl (by simp) (.of ((Below.refl W.heap.size W).alloc (Nat.le_refl _) _) hR.below.size) (fun g hg' _ => ((Below.refl W.heap.size W).alloc (Nat.le_refl _) _).block g hg') (hown.mono (Nat.zero_le _)) (fun g hg' => .inl (by
          simp only [Value.ownBlock, Option.some.injEq] at hg'; omega)) fun q xv hq => by simp at hq
    obtain rfl : p = (n : Int) := by rcases hpq with h | h <;> omega
    obtain ⟨w', hr, hrow, hg⟩ := run_make_full (P := P) W 0 T t inf zv h.z (sle_some h1) hi hz hs k1 k2 n (by rw [hb]; omega) (by simp only [maxLen]; omega) (Nat.zero_le _)
    have hzs : zv.cells.size = h.z := by have := congrArg List.length hzl; simpa [h6b] using this
    refine eff_value (u := .slice (some ⟨W.heap.size, 0, none⟩) n n) (W' := w') ?_ h12 ?_
    · unfold execOp
      simp only [ho, hx.n_inv, hy.n_inv, Sem.run_bind, hr, Result.andThen_ok]
      rfl
    · rw [hd]
      simp only [Int.toNat_natCast]
      refine hR.newR hdm h11 none (by simp) hg.size (.grown hg hR.below.size (fun k hk => by cases hk)) (fun g hg' _ => hg.block g hg' (by simp)) (by simpa using hrow) (fun g hg' => .inl (by
        simp only [Value.ownBlock, Option.some.injEq] at hg'; omega)) fun q xv hq => ?_
      have hqn : q < n := by have := (List.getElem?_eq_some_iff.1 hq).1; simpa using this
      have hxv : xv = h.d := by simpa [hqn] using hq.symm
      subst hxv
      refine ⟨h6b, h6d, fun t y ht => ?_⟩
      have htz : t < h.z := by rw [← h6b]; exact (List.getElem?_eq_some_iff.1 ht).1
      rw [← hzl, List.getElem?_map, Array.getElem?_toList] at ht
      cases hu : zv.cells[t]? with
      | none => rw [hu] at ht; cases ht
      | some u =>
        rw [hu, Option.map_some, Option.some.injEq] at ht
        refine ⟨u, ?_, by rw [← ht]; exact ofV_rep u⟩
        have hlt : q * h.z + t < n * h.z := by
          have : (q + 1) * h.z ≤ n * h.z := Nat.mul_le_mul_right _ hqn
          rw [Nat.add_mul, Nat.one_mul] at this
          omega
        rw [Array.getElem?_toList]
        unfold madeCells
        rw [Array.getElem?_map, Array.getElem?_range, if_pos hlt]
        simp only [Option.map_some, Option.some.injEq]
        rw [hzs, show (q * h.z + t) % h.z = t from by rw [Nat.mul_comm, Nat.mul_add_mod, Nat.mod_eq_of_lt htz]]
        rw [getElem!_def, hu]
  · exact h.elim
theorem fold_into : ∀ (L : List Value) (k off : Nat) (c : Array Value), off + k + L.length ≤ c.size →
    ((L.zipIdx k).foldl (fun (cs : Array Value) (p : Value × Nat) => cs.setIfInBounds (off + p.2) p.1) c).size = c.size ∧
    ∀ q, ((L.zipIdx k).foldl (fun (cs : Array Value) (p : Value × Nat) => cs.setIfInBounds (off + p.2) p.1) c)[q]? = if off + k ≤ q ∧ q < off + k + L.length then L[q - (off + k)]? else c[q]?
  | [], k, off, c, _ => ⟨rfl, fun q => by rw [if_neg (by simp only [List.length_nil]; omega)]; rfl⟩
  | v :: L, k, off, c, h => by
    simp only [List.length_cons] at h
    obtain ⟨h1, h2⟩ := fold_into L (k + 1) off (c.setIfInBounds (off + k) v) (by simp; omega)
    refine ⟨by simpa using h1, fun q => ?_⟩
    show ((L.zipIdx (k + 1)).foldl (fun (cs : Array Value) (p : Value × Nat) => cs.setIfInBounds (off + p.2) p.1) (c.setIfInBounds (off + k) v))[q]? = _
    rw [h2 q]
    simp only [List.length_cons]
    by_cases c1 : off + (k + 1) ≤ q ∧ q < off + (k + 1) + L.length
    · rw [if_pos c1, if_pos (by omega), show q - (off + k) = (q - (off + (k + 1))) + 1 by omega, List.getElem?_cons_succ]
    · rw [if_neg c1]
      by_cases c2 : q = off + k
      · subst c2
        rw [if_pos (by omega), Nat.sub_self, List.getElem?_cons_zero, Array.getElem?_setIfInBounds_self_of_lt (by omega)]
      · rw [if_neg (by omega), Array.getElem?_setIfInBounds_ne (by omega)]
theorem fill_row (z : Nat) : ∀ (L : List (Nat × Value)) (k : Nat) (c : Array Value), L.map (·.1) = List.range' k L.length → (∀ p ∈ L, p.2.cells.size = z) → (k + L.length) * z ≤ c.size →
    ∃ c', Instr.fill (fun i => some (i * z, z)) c L = some c' ∧ c'.size = c.size ∧ (∀ q, q < k * z → c'[q]? = c[q]?) ∧ ∀ (j : Nat) (p : Nat × Value) (t : Nat), L[j]? = some p → t < z → c'[(k + j) * z + t]? = p.2.cells[t]?
  | [], k, c, _, _, _ => ⟨c, rfl, rfl, fun _ _ => rfl, fun j p t h => by simp at h⟩
  | (i, v) :: L, k, c, hi, hz, hs => by
    simp only [List.length_cons, List.map_cons, List.range'_succ, List.cons.injEq] at hi hs
    obtain ⟨rfl, hi⟩ := hi
    have hv : v.cells.size = z := hz (i, v) (by simp)
    have hsz : (i + 1) * z ≤ c.size := Nat.le_trans (Nat.mul_le_mul_right z (by omega)) hs
    rw [Nat.add_mul, Nat.one_mul] at hsz
    obtain ⟨f1, f2⟩ := fold_into v.cells.toList 0 (i * z) c (by simp [hv]; omega)
    have e : v.cells.zipIdx.foldl (fun (cs : Array Value) (p : Value × Nat) => cs.setIfInBounds (i * z + p.2) p.1) c = (v.cells.toList.zipIdx 0).foldl (fun (cs : Array Value) (p : Value × Nat) => cs.setIfInBounds (i * z + p.2) p.1) c := by
      rw [← Array.foldl_toList, Array.toList_zipIdx]
    obtain ⟨c', g1, g2, g3, g4⟩ := fill_row z L (i + 1) (v.cells.zipIdx.foldl (fun (cs : Array Value) (p : Value × Nat) => cs.setIfInBounds (i * z + p.2) p.1) c) hi (fun p hp => hz p (by simp [hp])) (by rw [e, f1]; rw [show i + 1 + L.length = i + (L.length + 1) by omega]; exact hs)
    refine ⟨c', ?_, by rw [g2, e, f1], fun q hq => ?_, fun j p t hj ht => ?_⟩
    · show (if v.cells.size ≠ z || i * z + v.cells.size > c.size then none else Instr.fill (fun i => some (i * z, z)) (v.cells.zipIdx.foldl (fun (cs : Array Value) (p : Value × Nat) => cs.setIfInBounds (i * z + p.2) p.1) c) L) = some c'
      rw [if_neg (by simp [hv]; omega)]
      exact g1
    · rw [g3 q (by rw [Nat.add_mul, Nat.one_mul]; omega), e, f2 q, if_neg (by omega)]
    · cases j with
      | zero =>
        simp only [List.getElem?_cons_zero, Option.some.injEq] at hj
        subst hj
        rw [Nat.add_zero, g3 _ (by rw [Nat.add_mul, Nat.one_mul]; omega), e, f2, if_pos (by simp [hv]; omega), Nat.add_zero, Nat.add_sub_cancel_left, Array.getElem?_toList]
      | succ j =>
        rw [List.getElem?_cons_succ] at hj
        rw [show i + (j + 1) = i + 1 + j by omega]
        exact g4 j p t hj ht
theorem run_lit {t n z : Nat} {ps : Array (Nat × Value)} {inf : TypeInfo} {zv : Value} {c' : Array Value} (ht : P.underlying T = some (.slice t)) (hi : P.info? t = some inf) (hz : inf.zero = some zv) (hs : inf.size = z) (h7 : n * z ≤ 16777216)
    (hf : Instr.fill (fun i => some (i * z, z)) ((Array.range (n * z)).map (zv.cells[· % zv.cells.size]!)) ps.toList = some c') : (Instr.buildSlice T n ps).run P W = .ok (.slice (some ⟨W.heap.size, 0, none⟩) n n) (W.alloc (.cells c' t)) := by
  have hsz : (sizeOf t).run P W = .ok z W := by simp [sizeOf, typeInfo, hi, hs]
  have hzv : (zeroValue t).run P W = .ok zv W := by simp [zeroValue, typeInfo, hi, hz]
  have hpos : ¬ n * z > 2 ^ 24 := by omega
  unfold Instr.buildSlice
  simp only [Sem.run_bind, run_underlying ht W, Result.andThen_ok, hsz, if_neg hpos]
  by_cases h0 : n * z = 0
  · simp only [if_pos h0, Sem.run_pure, Result.andThen_ok, Sem.run_bind]
    rw [h0] at hf ⊢
    have e : (Array.range 0).map (fun x => (#[] : Array Value)[x % (#[] : Array Value).size]!) = (Array.range 0).map (zv.cells[· % zv.cells.size]!) := by simp
    rw [e, hf]
    rfl
  · simp only [if_neg h0, Sem.run_pure, Result.andThen_ok, Sem.run_bind, hzv, hf]
    rfl
theorem lit_ok {n : Nat} {ps : Array (Nat × Operand)} (ho : o.op = .buildSlice T n ps) (hps : ps.toList.map (·.1) = List.range n) (hd : o.dst = some d) (hdm : d < m) (hR : RelG w0 S m G F σ a W) (h : xLit P E T d n (ps.toList.map fun p => σ.rd p.2) σ k) : Eff P w0 S m o k a W := by
  obtain ⟨t, h, zl, ⟨h1, h2, h3, h4, h5⟩, ⟨h6, h7, h8⟩, h9, h10, h11⟩ := h
  obtain ⟨inf, zv, hi, hz, hzl⟩ := zc_some h4
  obtain ⟨inf2, hi2, hs⟩ := sz_und h3
  rw [hi] at hi2
  obtain rfl := Option.some.inj hi2
  simp only [List.length_map] at h6
  have hzs : zv.cells.size = h.z := by have := congrArg List.length hzl; simpa [h5] using this
  have hcell : ∀ p ∈ ps.toList, (a.eval p.2).cells.size = h.z ∧ σ.rd p.2 ≠ .j ∧ okE h.z h.e h.c (σ.rd p.2) := fun p hp => by
    have hok := h9 (σ.rd p.2) (List.mem_map.2 ⟨p, hp, rfl⟩)
    obtain ⟨hj, _⟩ := ones (hR.rd p.2) hok.2.2.1
    exact ⟨(cells_rep (hR.rd p.2) hj).1.trans hok.2.1, hj, hok⟩
  obtain ⟨c', g1, g2, g3, g4⟩ := fill_row h.z (ps.toList.map fun p => (p.1, a.eval p.2)) 0 ((Array.range (n * h.z)).map (zv.cells[· % zv.cells.size]!)) (by simp only [List.map_map, List.length_map, ← h6]; rw [← List.range_eq_range']; exact hps) (fun p hp => by
    obtain ⟨q, hq, rfl⟩ := List.mem_map.1 hp
    exact (hcell q hq).1) (by simp [h6])
  have hgs : c'.size = n * h.z := by rw [g2]; simp
  refine eff_value (u := .slice (some ⟨W.heap.size, 0, none⟩) n n) (W' := W.alloc (.cells c' t)) ?_ h11 ?_
  · unfold execOp
    simp only [ho, Sem.run_bind, run_lit (P := P) (W := W) (ps := ps.map fun x => (x.fst, a.eval x.snd)) (sle_some h1) hi hz hs h7 (by simpa using g1), Result.andThen_ok]
    rfl
  · rw [hd]
    refine hR.newR hdm h10 none (by simp [h6]) (by simp) (below_alloc hR _) (fun g hg _ => Below.heap_alloc W _ g hg) (xs := c'.toList) ⟨by simp [hgs, h6], .inr ⟨W.heap.size, n, c', by simp [h6], Nat.zero_le _, heap_alloc_new W _, by simp [h6], by simp only [maxLen]; have := Nat.le_mul_of_pos_right n h8; omega, hgs, by rw [List.take_of_length_le]; simp [hgs, ← h6]⟩⟩ (fun g hg => .inl (by simp only [Value.ownBlock, Option.some.injEq] at hg; omega)) fun q xv hq => ?_
    rw [List.map_map, List.getElem?_map] at hq
    cases hp : ps.toList[q]? with
    | none => rw [hp] at hq; cases hq
    | some p =>
      rw [hp, Option.map_some, Option.some.injEq] at hq
      obtain ⟨k1, k2, k3a, k3b, k3c, k3d⟩ := hcell p (List.mem_of_getElem? hp)
      subst hq
      simp only [Function.comp_apply]
      rw [k3a]
      refine ⟨k3b, k3d, fun t y ht => ?_⟩
      have htz : t < h.z := by rw [← k3b]; exact (List.getElem?_eq_some_iff.1 ht).1
      have hLq : (ps.toList.map fun p => (p.1, a.eval p.2))[q]? = some (p.1, a.eval p.2) := by simp only [List.getElem?_map, hp, Option.map_some]
      have g5 := g4 q _ t hLq htz
      rw [Nat.zero_add] at g5
      have hu : (a.eval p.2).cells[t]? = some ((a.eval p.2).cells.getD t undef) := by rw [Array.getD_eq_getD_getElem?, Array.getElem?_eq_getElem (by omega)]; rfl
      refine ⟨_, by rw [Array.getElem?_toList, g5]; exact hu, ?_⟩
      exact (((cells_rep (hR.rd p.2) k2).2 _ y _ ht hu).keep (fun g hg => Below.heap_alloc W _ g (hR.fin g hg).1)).ren fun i hi => by rw [men_cs' k3d ht i] at hi; cases hi
end
end Go.Proofs.YtikmkgoeepgbkaaGreatDoor.Ev
namespace Go.Proofs.YtikmkgoeepgbkaaGreatDoor.Ev
open Go.RowKit
open Go.Proofs.YtikmkgoeepgbkaaGreatDoor.Mem
set_option linter.unusedVariables false

section
variable {P : Program} {o : Oper} {w0 : Bs} {S : Nat → Prop} {m : Nat} {G : Gm} {F : Nat → Prop} {σ : St} {a : Act} {W W' : World} {k : St → Prop} {x y : Operand} {T d : Nat} {E : Nat → Option Elp}
/-- A row, or a slice that is read, as a list of cells. -/
def Src (F : Nat → Prop) (W : World) (v : Value) (z : Nat) {α : Type} (l : List α) (e : α → V) (xs : List Value) : Prop :=
  Rd W v l.length z xs ∧ ∀ (q : Nat) (x : α), l[q]? = some x → ∀ (t : Nat) (y : V), (cs (e x))[t]? = some y → ∃ v, xs[q * z + t]? = some v ∧ Rep F W G0 y v
theorem src_ok {K : Nat → (α : Type) → List α → (α → V) → Prop} (hR : RelG w0 S m G F σ a W) (h : vSrc σ.bk (σ.rd x) K) (hz : ∀ z α (l : List α) e, K z α l e → 0 < z) : ∃ z, ∃ α : Type, ∃ l : List α, ∃ e xs, K z α l e ∧ Src F W (a.eval x) z l e xs := by
  have hx := hR.rd x
  generalize σ.rd x = vx at *
  unfold vSrc at h
  split at h
  · rename_i z α d l e
    have hz := hz _ _ _ _ h
    rcases hx.sl_inv with ⟨ao, c', rfl, e1⟩ | ⟨g, off, c', u, e1, hg, hc, hn, hzz, hu, hr⟩
    · exact ⟨z, α, [], e, [], h, ⟨by simp, .inl ⟨rfl, ao, c', e1⟩⟩, fun q x hq => by simp at hq⟩
    · have key : ∀ j, j < l.length * z → j / z < l.length ∧ j % z < z ∧ j / z * z + j % z = j := fun j hj =>
        ⟨(Nat.div_lt_iff_lt_mul hz).2 hj, Nat.mod_lt _ hz, by rw [Nat.mul_comm]; exact Nat.div_add_mod j z⟩
      refine ⟨z, α, l, e, (List.range (l.length * z)).map fun j => u (j / z) (j % z), h, ⟨by simp, .inr ⟨g, off, c', e1, fun j v hj => ?_, hc⟩⟩, fun q x hq t y ht => ?_⟩
      · have hjl : j < l.length * z := by
          rcases Nat.lt_or_ge j (l.length * z) with h | h
          · exact h
          · rw [List.getElem?_eq_none (by simpa using h)] at hj; cases hj
        obtain ⟨k1, k2, k3⟩ := key j hjl
        have e2 : l[j / z]? = some (l[j / z]'k1) := List.getElem?_eq_getElem _
        have hlen := hzz _ _ e2
        have e3 : (cs (e (l[j / z]'k1)))[j % z]? = some ((cs (e (l[j / z]'k1)))[j % z]'(by omega)) := List.getElem?_eq_getElem _
        have h7 := hu _ _ _ _ e2 e3
        rw [k3] at h7
        rw [h7]
        simpa [hjl] using hj
      · have hql : q < l.length := (List.getElem?_eq_some_iff.1 hq).1
        have htl : t < z := by rw [← hzz _ _ hq]; exact (List.getElem?_eq_some_iff.1 ht).1
        have hlt : q * z + t < l.length * z := by
          have : (q + 1) * z ≤ l.length * z := Nat.mul_le_mul_right _ hql
          rw [Nat.add_mul, Nat.one_mul] at this
          omega
        refine ⟨u q t, ?_, hr _ _ _ _ hq ht⟩
        rw [List.getElem?_map, List.getElem?_range hlt, Option.map_some]
        congr 2
        · rw [Nat.mul_comm, Nat.mul_add_div hz, Nat.div_eq_of_lt htl, Nat.add_zero]
        · rw [Nat.mul_comm, Nat.mul_add_mod, Nat.mod_eq_of_lt htl]
  · rename_i i n
    split at h
    · rename_i T1 z α d l e c hb
      obtain ⟨rfl, h⟩ := h
      obtain ⟨xs, b1, b2, b3⟩ := hR.blk i _ hb
      obtain ⟨e1, _⟩ := hx.ow_inv
      refine ⟨z, α, l, e, xs, h, by rw [e1]; exact Rd.of_row b1, fun q x hq t y ht => (b3 q x hq).2.2 t y ht⟩
    · exact h.elim
  · exact h.elim
theorem run_append_nothing (w : World) (base : Nat) (t ty e : TypeId) (i : TypeInfo) (ht : P.underlying t = some (.slice e)) (hi : P.info? e = some i)
    (v : Value) (n : Nat) (xs : List Value) {size : Nat} (hown : w.ownsRow base e size v n xs) (c : Nat) :
    (Builtin.append_ #[t, t] ty #[v, .slice none 0 c]).run P w = .ok v w := by
  rcases hown.2 with ⟨rfl, rfl⟩ | ⟨g, cap, cur, rfl, _, _, hnc, _⟩
  · simp [Builtin.append_, run_underlying ht, sizeOf, typeInfo, hi, Builtin.lenOf, Builtin.firstCells]
  · simp [Builtin.append_, run_underlying ht, sizeOf, typeInfo, hi, Builtin.lenOf, Builtin.firstCells, hnc, storeCells]
/-- 'append', whatever the row and the source. -/
theorem run_app {v xv : Value} {n n2 t z b : Nat} {xs news : List Value} {inf : TypeInfo} {zv : Value} {ty : Nat} (ht : P.underlying T = some (.slice t)) (hi : P.info? t = some inf) (hz : inf.zero = some zv) (hs : inf.size = z) (hby : inf.bytes = b) (hzs : zv.cells.size = z) (hz0 : 0 < z)
    (hrow : W.ownsRow 0 t z v n xs) (hsrc : Rd W xv n2 z news) (h1 : ∀ u ∈ news, u.oneCell' = true) (h63 : n + n2 ≤ 9223372036854775807) (hbb : b ≤ 4096) (hb : (n + n2) * b ≤ 180000000000000) :
    ∃ v' w', (Builtin.append_ #[T, T] ty #[v, xv]).run P W = .ok v' w' ∧ w'.ownsRow 0 t z v' (n + n2) (xs ++ news) ∧ W.grownBy w' v.ownBlock ∧ ∀ g, v'.ownBlock = some g → v.ownBlock = some g ∨ W.heap.size ≤ g := by
  rcases hsrc.2 with ⟨rfl, ao, c, rfl⟩ | ⟨g, off, c, rfl, hc, hnc⟩
  · have hn : news = [] := List.eq_nil_of_length_eq_zero (by rw [hsrc.1, Nat.zero_mul])
    subst hn
    cases ao with
    | none => exact ⟨v, W, run_append_nothing W 0 T ty t inf ht hi v n xs hrow c, by simpa using hrow, grown_refl _ _, fun g hg => .inl hg⟩
    | some ad =>
      obtain ⟨v', w', hr, h2, h3, h4, h5⟩ := run_append_wide (P := P) (w := W) T ty t inf zv z b ht hi hz hs hby hzs hz0 v n xs hrow ad 0 c [] (by simp) (fun j u h => by simp at h) (fun u h => by simp at h) (by simp only [maxLen]; omega) hbb hb
      exact ⟨v', w', hr, h2, h3, fun g hg => by rcases h5 with h5 | h5 <;> rw [hg] at h5 <;> simp_all⟩
  · obtain ⟨v', w', hr, h2, h3, h4, h5⟩ := run_append_wide (P := P) (w := W) T ty t inf zv z b ht hi hz hs hby hzs hz0 v n xs hrow ⟨g, off, none⟩ n2 c news hsrc.1 (fun j u h => by rw [add_lit]; exact hc j u h) h1 (by simp only [maxLen]; omega) hbb hb
    exact ⟨v', w', hr, h2, h3, fun g hg => by
      rcases h5 with h5 | h5
      · exact .inl (by rw [← h5, hg])
      · rw [hg, Option.some.injEq] at h5
        exact .inr (by omega)⟩
theorem append_gen {T' z2 : Nat} {α2 : Type} {l2 : List α2} {e2 : α2 → V} {news : List Value} (ho : o.op = .call { callee := .builtin .append, args := #[x, y], argTypes := #[T, T'] }) (hd : o.dst = some d) (hdm : d < m) (hR : RelG w0 S m G F σ a W)
    (hK : appK P E T d (σ.rd x) σ k z2 α2 l2 e2) (hn1 : news.length = l2.length * z2) (hel : ∀ (q : Nat) (x : α2), l2[q]? = some x → ∀ (t : Nat) (y : V), (cs (e2 x))[t]? = some y → ∃ v, news[q * z2 + t]? = some v ∧ Rep F W G0 y v)
    (happ : ∀ (v : Value) (n t b : Nat) (xs : List Value) (inf : TypeInfo) (zv : Value), n = lenV (σ.rd x) → P.underlying T = some (.slice t) → P.info? t = some inf → inf.zero = some zv → inf.size = z2 → inf.bytes = b → zv.cells.size = z2 → 0 < z2 → W.ownsRow 0 t z2 v n xs → (∀ u ∈ news, u.oneCell' = true) → n + l2.length ≤ 9223372036854775807 → b ≤ 4096 → (n + l2.length) * b ≤ 180000000000000 →
      ∃ v' w', (Builtin.append_ #[T, T'] o.type #[v, a.eval y]).run P W = .ok v' w' ∧ w'.ownsRow 0 t z2 v' (n + l2.length) (xs ++ news) ∧ W.grownBy w' v.ownBlock ∧ ∀ g, v'.ownBlock = some g → v.ownBlock = some g ∨ W.heap.size ≤ g) : Eff P w0 S m o k a W := by
  have hx := hR.rd x
  generalize σ.rd x = vx at *
  have hone : ∀ (z : Nat) {α : Type} (e : α → V) (c : V → α), z2 = z → (∀ v ∈ l2, okE z e c (e2 v)) → ∀ u ∈ news, u.oneCell' = true := by
    intro z α e c hz hok u hu
    subst hz
    obtain ⟨j, hj, rfl⟩ := List.getElem_of_mem hu
    have hj2 : j < l2.length * z2 := by rw [← hn1]; exact hj
    have hz0 : 0 < z2 := by
      rcases Nat.eq_zero_or_pos z2 with h | h
      · rw [h] at hj2; omega
      · exact h
    have hq : j / z2 < l2.length := (Nat.div_lt_iff_lt_mul hz0).2 hj2
    have e3 : l2[j / z2]? = some (l2[j / z2]'hq) := List.getElem?_eq_getElem _
    obtain ⟨k1, k2, k3, k4⟩ := hok _ (List.getElem_mem hq)
    have hm := Nat.mod_lt j hz0
    have e4 : (cs (e2 (l2[j / z2]'hq)))[j % z2]? = some ((cs (e2 (l2[j / z2]'hq)))[j % z2]'(by omega)) := List.getElem?_eq_getElem _
    obtain ⟨v, hv1, hv2⟩ := hel _ _ e3 _ _ e4
    rw [show j / z2 * z2 + j % z2 = j by rw [Nat.mul_comm]; exact Nat.div_add_mod j z2, List.getElem?_eq_getElem hj, Option.some.injEq] at hv1
    rw [hv1]
    exact one_of hv2 (List.all_eq_true.1 k3 _ (List.getElem_mem _))
  have hexec : ∀ {v' w'}, (Builtin.append_ #[T, T'] o.type #[a.eval x, a.eval y]).run P W = .ok v' w' → (execOp a.eval o).run P W = .ok (.value v') w' := by
    intro v' w' hr
    unfold execOp
    simp only [ho, resolve, invoke, builtin, Sem.run_bind, Sem.run_pure, Result.andThen_ok, List.map_toArray, List.map_cons, List.map_nil, hr]
  unfold appK at hK
  split at hK
  · rename_i i n
    split at hK
    · rename_i t z α d0 l e c hb
      obtain ⟨⟨b, zl, h1, h2, h3, h4, h5, h6, h7⟩, ⟨rfl, h8, rfl, h9⟩, h10, h11, h12⟩ := hK
      obtain ⟨inf, zv, hi, hz, hzl⟩ := zc_some h4
      obtain ⟨inf2, hi2, hs⟩ := sz_und h2
      obtain ⟨inf3, hi3, hby⟩ := bys_some h3
      rw [hi] at hi2 hi3
      obtain rfl := Option.some.inj hi2
      obtain rfl := Option.some.inj hi3
      have hzs : zv.cells.size = z2 := by have := congrArg List.length hzl; simpa [h5] using this
      obtain ⟨xs, b1, b2, b3⟩ := hR.blk i _ hb
      obtain ⟨e1, _⟩ := hx.ow_inv
      obtain ⟨v', w', hr, r2, r3, r4⟩ := happ _ l.length _ _ _ _ _ rfl (sle_some h1) hi hz hs hby hzs h8 b1 (hone z2 e c rfl h10) h9 h6 h7
      refine eff_value (hexec (by rw [e1]; exact hr)) h12 ?_
      rw [hd]
      have hF : ∀ g, F g → w'.heap[g]? = W.heap[g]? := fun g hg => r3.block g (hR.fin g hg).1 fun e => (hR.own i _ g hb (show (G i).2.ownBlock = some g from e.symm)).2.2 hg
      refine hR.newR hdm h11 (some i) (by simp) r3.size (.grown r3 hR.below.size fun g hg => (hR.own i _ g hb hg).1) (fun g hg hn => r3.block g hg fun e => hn i _ rfl hb (show (G i).2.ownBlock = some g from e.symm)) (by simpa using r2) (fun g hg => (r4 g hg).symm.imp id fun h => ⟨i, _, rfl, hb, h⟩) fun q xv hq => ?_
      by_cases hql : q < l.length
      · rw [List.getElem?_append_left hql] at hq
        obtain ⟨k1, k2, k3⟩ := b3 q xv hq
        refine ⟨k1, k2, fun t y ht => ?_⟩
        obtain ⟨v, hv1, hv2⟩ := k3 t y ht
        exact ⟨v, by rw [List.getElem?_append_left (List.getElem?_eq_some_iff.1 hv1).1]; exact hv1, hv2.keep hF⟩
      · rw [List.getElem?_append_right (by omega), List.getElem?_map] at hq
        cases hp : l2[q - l.length]? with
        | none => rw [hp] at hq; cases hq
        | some p =>
          rw [hp, Option.map_some, Option.some.injEq] at hq
          obtain ⟨k1, k2, k3, k4⟩ := h10 p (List.mem_of_getElem? hp)
          subst hq
          simp only [k1]
          refine ⟨k2, k4, fun t y ht => ?_⟩
          obtain ⟨v, hv1, hv2⟩ := hel _ _ hp t y ht
          refine ⟨v, ?_, hv2.keep hF⟩
          have hxl := b1.1
          rw [List.getElem?_append_right (by rw [hxl]; have := Nat.mul_le_mul_right z2 (show l.length ≤ q by omega); omega), hxl]
          rw [← hv1, Nat.sub_mul]
          congr 1
          have := Nat.mul_le_mul_right z2 (show l.length ≤ q by omega)
          omega
    · exact hK.elim
  · obtain ⟨t, h, b, zl, ⟨h1, h2, h3, h4, h5, h6, h7, h7b⟩, ⟨rfl, h8, h9⟩, h10, h11, h12⟩ := hK
    obtain ⟨inf, zv, hi, hz, hzl⟩ := zc_some h5
    obtain ⟨inf2, hi2, hs⟩ := sz_und h3
    obtain ⟨inf3, hi3, hby⟩ := bys_some h4
    rw [hi] at hi2 hi3
    obtain rfl := Option.some.inj hi2
    obtain rfl := Option.some.inj hi3
    have hzs : zv.cells.size = h.z := by have := congrArg List.length hzl; simpa [h6] using this
    obtain ⟨v', w', hr, r2, r3, r4⟩ := happ (.slice none 0 0) 0 _ _ [] _ _ rfl (sle_some h1) hi hz hs hby hzs h8 (World.ownsRow_nil _ _ _ _) (hone h.z h.e h.c rfl h10) (by omega) h7 (by rw [Nat.zero_add]; exact h7b)
    refine eff_value (hexec (by rw [hx.nl_inv]; exact hr)) h12 ?_
    rw [hd]
    have hF : ∀ g, F g → w'.heap[g]? = W.heap[g]? := fun g hg => r3.block g (hR.fin g hg).1 fun e => by cases e
    refine hR.newR hdm h11 none (by simp) r3.size (.grown r3 hR.below.size fun g hg => by cases hg) (fun g hg _ => r3.block g hg fun e => by cases e) (by simpa using r2) (fun g hg => (r4 g hg).symm.imp id fun h => by cases h) fun q xv hq => ?_
    rw [List.getElem?_map] at hq
    cases hp : l2[q]? with
    | none => rw [hp] at hq; cases hq
    | some p =>
      rw [hp, Option.map_some, Option.some.injEq] at hq
      obtain ⟨k1, k2, k3, k4⟩ := h10 p (List.mem_of_getElem? hp)
      subst hq
      simp only [k1]
      refine ⟨k2, k4, fun t y ht => ?_⟩
      obtain ⟨v, hv1, hv2⟩ := hel _ _ hp t y ht
      exact ⟨v, by simpa using hv1, hv2.keep hF⟩
  · exact hK.elim
theorem append_ok (ho : o.op = .call { callee := .builtin .append, args := #[x, y], argTypes := #[T, T] }) (hd : o.dst = some d) (hdm : d < m) (hR : RelG w0 S m G F σ a W) (h : xAppend P E T d (σ.rd x) (σ.rd y) σ k) : Eff P w0 S m o k a W := by
  obtain ⟨z2, α2, l2, e2, news, hK, hsrc, hel⟩ := src_ok (x := y) hR h (fun z α l e hk => by
    generalize σ.rd x = vx at *
    unfold appK at hk
    split at hk
    · split at hk
      · obtain ⟨_, ⟨rfl, h, _⟩, _⟩ := hk; exact h
      · exact hk.elim
    · obtain ⟨_, _, _, _, _, ⟨rfl, h, _⟩, _⟩ := hk; exact h
    · exact hk.elim)
  exact append_gen ho hd hdm hR hK hsrc.1 hel fun v n t b xs inf zv _ h1 h2 h3 h4 h5 h6 h7 h8 h9 h10 h11 h12 => run_app h1 h2 h3 h4 h5 h6 h7 h8 hsrc h9 h10 h11 h12
theorem strCells_map (l : List UInt8) : Lib.strCells (tx l) = l.map fun c => Value.int .u8 (c.toNat : Int) := by
  simp [Lib.strCells, tx]
theorem appendG_ok {T' : Nat} (ho : o.op = .call { callee := .builtin .append, args := #[x, y], argTypes := #[T, T'] }) (hd : o.dst = some d) (hdm : d < m) (hR : RelG w0 S m G F σ a W) (h : vSrcG P T T' σ.bk (σ.rd x) (σ.rd y) (appK P E T d (σ.rd x) σ k)) : Eff P w0 S m o k a W := by
  unfold vSrcG at h
  split at h
  · rename_i l e
    obtain ⟨⟨⟨hu, hq⟩, hb⟩, hK⟩ := h
    have hy := hR.rd y
    rw [e] at hy
    have hy := hy.s_inv
    refine append_gen (news := l.map fun c => Value.int .u8 (c.toNat : Int)) ho hd hdm hR hK (by simp) (fun q c hc t v hv => ?_) fun v n t b xs inf zv hn h1 h2 h3 h4 h5 h6 h7 h8 h9 h10 h11 h12 => ?_
    · rcases t with _ | t
      · simp [eB, cs] at hv
        subst hv
        refine ⟨.int .u8 (c.toNat : Int), ?_, .n _ _ _⟩
        rw [Nat.mul_one, Nat.add_zero, List.getElem?_map, hc]
        rfl
      · simp [eB, cs] at hv
    · have ht : sle P T = some t := by unfold sle kd; rw [h1]; rfl
      rw [ht] at hq
      obtain ⟨q1, q2, q3⟩ := hq
      have e0 : inf.zero = some (.int .u8 0) := by unfold zi at q3; rw [h2] at q3; exact q3
      have e1 : inf.bytes = 1 := by unfold bys at q1; rw [h2] at q1; exact Option.some.inj q1
      have hbb : n + (tx l).size ≤ 140737488355328 := by rw [tx_size, hn]; exact hb
      obtain ⟨v', w', r1, r2, r3, r4⟩ := Lib.run_append_own_string (P := P) W 0 T T' o.type t inf h1 (strT_some hu) h2 e0 h4 e1 v n xs h8 (tx l) (by unfold maxLen; omega) hbb (Nat.zero_le _)
      rw [strCells_map, tx_size] at r2
      refine ⟨v', w', by rw [hy]; exact r1, r2, r3, fun g hg => ?_⟩
      rcases h8.2 with ⟨rfl, rfl⟩ | ⟨g0, cap, cur, rfl, _, hgg, hnc, hcm, hcs, _⟩
      · by_cases h0 : (tx l).size = 0
        · rw [r4.2 ⟨rfl, h0⟩] at hg; cases hg
        · have hr2 := run_append_nil_string (P := P) W T T' o.type t inf (.int .u8 0) h1 (strT_some hu) h2 e0 (tx l) (by omega) (by omega) (by rw [e1]; omega)
          rw [hr2] at r1
          simp only [Result.ok.injEq] at r1
          rw [← r1.1] at hg
          simp only [Value.ownBlock, Option.some.injEq] at hg
          exact .inr (by omega)
      · by_cases hroom : n + (tx l).size ≤ cap
        · have hr2 := Lib.run_append_room_string (P := P) W T T' o.type t inf h1 (strT_some hu) h2 h4 g0 n cap cur hgg (tx l) hroom (by omega)
          rw [hr2] at r1
          simp only [Result.ok.injEq] at r1
          rw [← r1.1] at hg
          exact .inl hg
        · have hr2 := Lib.run_append_grow_string (P := P) W T T' o.type t inf (.int .u8 0) h1 (strT_some hu) h2 e0 ⟨g0, 0, none⟩ n cap xs (by rw [h4]; exact h8.1) (h8.cells (g := g0) rfl) (tx l) (by omega) (by omega) (growslice_fits (by omega) (by rw [e1]; omega))
          rw [hr2] at r1
          simp only [Result.ok.injEq] at r1
          rw [← r1.1] at hg
          simp only [Value.ownBlock, Option.some.injEq] at hg
          exact .inr (by omega)
  · obtain ⟨rfl, h⟩ := h
    exact append_ok ho hd hdm hR h
end
end Go.Proofs.YtikmkgoeepgbkaaGreatDoor.Ev
