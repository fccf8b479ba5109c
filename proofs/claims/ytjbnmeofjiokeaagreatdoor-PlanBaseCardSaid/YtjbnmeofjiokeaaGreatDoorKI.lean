/- Walks by program, the whole function by itself: encoders, slices that are read, rows of elements, joins: at any program. -/
import Derived.Test.YtjbnmeofjiokeaaGreatDoorKA
import Derived.Laws.OwnMore
import Derived.WalkKit
import Derived.ProofKit
import Derived.OpenShut
import Derived.ChangeMaps5
import Derived.Carry
import Derived.SizedLaws
import Derived.Deep.Slices
import Derived.Test.YtjbnmeofjiokeaaGreatDoorKD
set_option linter.all false
namespace Go.Proofs.YtjbnmeofjiokeaaGreatDoor.Mem
open Go.RowKit

/-! ### Elements as cells -/
def eB (b : UInt8) : List Value := [bv b]
/-- The slice v reads as the elements l. -/
def Rs {α : Type} (enc : α → List Value) (size : Nat) (l : List α) (v : Value) (W : World) : Prop := Rd W v l.length size (l.flatMap enc)
theorem flat_len {α : Type} {enc : α → List Value} {size : Nat} (h : ∀ x, (enc x).length = size) : ∀ l : List α, (l.flatMap enc).length = l.length * size
  | [] => by simp
  | x :: l => by rw [List.flatMap_cons, List.length_append, h, flat_len h l, List.length_cons, Nat.add_mul, Nat.one_mul, Nat.add_comm]
theorem flat_at {α : Type} {enc : α → List Value} {size : Nat} (h : ∀ x, (enc x).length = size) (d : α) : ∀ (l : List α) (i j : Nat) (u : Value), i < l.length → (enc (l.getD i d))[j]? = some u → (l.flatMap enc)[i * size + j]? = some u
  | [], _, _, _, hi, _ => by simp at hi
  | x :: l, 0, j, u, _, hu => by
    have hj : j < (enc x).length := (List.getElem?_eq_some_iff.1 hu).1
    rw [List.flatMap_cons, Nat.zero_mul, Nat.zero_add, List.getElem?_append_left hj]
    exact hu
  | x :: l, i + 1, j, u, hi, hu => by
    rw [List.flatMap_cons, List.getElem?_append_right (by rw [h, Nat.add_mul]; omega), h, show (i + 1) * size + j - size = i * size + j by rw [Nat.add_mul]; omega]
    exact flat_at h d l i j u (by simpa using hi) (by simpa using hu)
/-! ### Where a slice lies -/
def bk : Value → Nat
  | .slice (some a) _ _ => a.block
  | _ => 0
def po : Value → Nat
  | .slice (some ⟨_, o, _⟩) _ _ => o
  | _ => 0
def ca : Value → Nat
  | .slice _ _ c => c
  | _ => 0
section
variable {W : World} {v : Value} {n size : Nat} {xs : List Value} {e : TypeId}
theorem Rd.lies (h : Rd W v n size xs) (hn : 0 < n) : v = .slice (some ⟨bk v, po v, none⟩) n (ca v) := by
  rcases h.2 with ⟨rfl, _⟩ | ⟨g, o, c, rfl, _⟩
  · omega
  · rfl
theorem Rd.cellz (h : Rd W v n size xs) (j : Nat) (u : Value) (hj : xs[j]? = some u) : W.cell? ⟨bk v, po v + j, none⟩ = some u := by
  rcases h.2 with ⟨h1, _⟩ | ⟨g, o, c, rfl, hc, _⟩
  · have hl := h.1
    rw [h1, Nat.zero_mul] at hl
    rw [List.eq_nil_of_length_eq_zero hl] at hj
    cases hj
  · exact hc j u hj
end
section
variable {α : Type} {enc : α → List Value} {size : Nat} {l : List α} {v : Value} {W : World}
theorem Rs.cell (h : Rs enc size l v W) (hl : ∀ x, (enc x).length = size) (d : α) (i : Nat) (hi : i < l.length) (j : Nat) (u : Value) (hu : (enc (l.getD i d))[j]? = some u) : W.cell? ⟨bk v, po v + i * size + j, none⟩ = some u := by
  rw [Nat.add_assoc]
  exact Rd.cellz h _ u (flat_at hl d l i j u hi hu)
theorem Rs.nil (enc : α → List Value) (size : Nat) (W : World) : Rs enc size [] (.slice none 0 0) W := Rd.nil W size
theorem Rs.row {e : TypeId} (h : W.ownsRow 0 e size v l.length (l.flatMap enc)) : Rs enc size l v W := Rd.of_row h
theorem Rs.blk {g : Nat} {c : Array Value} {T : TypeId} {n cap : Nat} (h : Blk W g c T) (hc : c.toList = l.flatMap enc) (hn : n = l.length) (hl : ∀ x, (enc x).length = size) (hcap : n ≤ cap := by omega) : Rs enc size l (.slice (some ⟨g, 0, none⟩) n cap) W := by
  subst hn
  unfold Rs
  rw [← hc]
  exact Rd.of_blk h (by rw [← Array.length_toList, hc, flat_len hl]) hcap
end

/-! ### What is read -/
def From (S : Nat → Prop) (R : World → Prop) (W : World) : Prop := ∃ F, Seal R F W ∧ ∀ g, F g → S g
def seeS (l : List Ent) (g : Nat) : Prop := ∃ (i : Nat) (R : World → Prop) (F : Nat → Prop), l[i]? = some (.see R F) ∧ F g
section
variable {S : Nat → Prop} {R R' : World → Prop} {W W' w : World} {r : Option Nat} {l : List Ent}
theorem From.out (h : From S R W) : R W := by obtain ⟨F, h1, _⟩ := h; exact h1.out
theorem From.mono (h : From S R W) (f : ∀ W, R W → R' W) : From S R' W := by obtain ⟨F, h1, h2⟩ := h; exact ⟨F, h1.mono f, h2⟩
theorem From.and (h : From S R W) (k : From S R' W) : From S (fun W => R W ∧ R' W) W := by
  obtain ⟨F, h1, h2⟩ := h
  obtain ⟨F', k1, k2⟩ := k
  exact ⟨_, h1.and k1, fun g hg => hg.elim (h2 g) (k2 g)⟩
theorem From.pure {p : World → Prop} (h : ∀ W, p W) : From S p W := ⟨fun _ => False, ⟨fun _ h => h.elim, h W, fun W' _ => h W'⟩, fun _ h => h.elim⟩
theorem Mm.from (h : Mm r S w W l) (i : Nat) {F : Nat → Prop} (hi : l[i]? = some (.see R F)) : From (seeS l) R W := ⟨F, h.seal i hi, fun _ hg => ⟨i, R, F, hi, hg⟩⟩
theorem Mm.come (h : Mm none S w w l) (hf : From S R w) : ∃ F, Mm none S w w (l ++ [.see R F]) := by
  obtain ⟨F, h1, h2⟩ := hf
  exact ⟨F, h.came h1 h2⟩
theorem Rs.all {α : Type} {enc : α → List Value} {size : Nat} {x : List α} {v : Value} (h : Rs enc size x v W) : From (fun _ => True) (Rs enc size x v) W := ⟨_, Seal.rd h, fun _ _ => trivial⟩
/-- One more, of this world. -/
theorem Mm.add (h : Mm r S w W l) {x : Ent} (hx : x.ok W) (hn : ∀ g, x.own g → w.heap.size ≤ g) (hu : ∀ g, x.uses g → ∀ (i : Nat) (y : Ent), l[i]? = some y → ¬ y.own g) (hv : ∀ g, x.own g → ∀ (i : Nat) (y : Ent), l[i]? = some y → ¬ y.uses g)
    (hs : ∀ R F g, x = .see R F → F g → w.heap.size ≤ g ∨ S g) : Mm r S w W (l ++ [x]) := by
  refine ⟨fun i y hi => ?_, fun i y g hi hg => ?_, fun i R F g hi hg => ?_, fun i j y z g hi hj hij hg hz => ?_, h.frame⟩
  · rcases get_snoc _ _ hi with ⟨_, h1⟩ | ⟨_, rfl⟩
    · exact h.ok _ _ h1
    · exact hx
  · rcases get_snoc _ _ hi with ⟨_, h1⟩ | ⟨_, rfl⟩
    · exact h.low _ _ _ h1 hg
    · exact .inl (hn g hg)
  · rcases get_snoc _ _ hi with ⟨_, h1⟩ | ⟨_, e⟩
    · exact h.src _ _ _ _ h1 hg
    · exact hs _ _ _ e.symm hg
  · rcases get_snoc _ _ hi with ⟨_, h1⟩ | ⟨e1, rfl⟩
    · rcases get_snoc _ _ hj with ⟨_, h2⟩ | ⟨_, rfl⟩
      · exact h.ne _ _ _ _ _ h1 h2 hij hg hz
      · exact hu g hz _ _ h1 hg
    · rcases get_snoc _ _ hj with ⟨_, h2⟩ | ⟨e2, rfl⟩
      · exact hv g hg _ _ h2 hz
      · omega
end

/-! ### Joins, loops -/
def fin {α β γ : Type} (x : Sum α β) (r : β → γ) (k : α → γ) : γ := match x with
  | .inl a => k a
  | .inr b => r b
section
variable {P : Program} {Q : Exit → Act → World → Prop} {a : Act} {w : World}
end
section
variable {P : Program} {Q : Exit → Act → World → Prop} {K : Act → World → Prop} {oi : Oper} {a : Act} {r : Option Nat} {S : Nat → Prop} {w0 w : World} {L : List Ent} {T e : TypeId} {x y : Operand}
theorem lvw {ops : Array Oper} {rest : List Oper} (d : Tmp) (v : Value) (hg : Region.wanted oi (yielded ops a.tmps) = true) (hd : oi.dst = some d) (hrun : (execOp a.eval oi).run P w = .ok (.value v) w)
    (h : wpList P ops Q rest { a with tmps := a.tmps.setIfInBounds d v } w) : wpList P ops Q (oi :: rest) a w :=
  Sym.lst hg (Sym.w_value d v hd hrun h)
/-! Operations -/
theorem run_append_nothing (w : World) (base : Nat) (t ty e : TypeId) (i : TypeInfo) (ht : P.underlying t = some (.slice e)) (hi : P.info? e = some i)
    (v : Value) (n : Nat) (xs : List Value) {size : Nat} (hown : w.ownsRow base e size v n xs) (c : Nat) :
    (Builtin.append_ #[t, t] ty #[v, .slice none 0 c]).run P w = .ok v w := by
  rcases hown.2 with ⟨rfl, rfl⟩ | ⟨g, cap, cur, rfl, _, _, hnc, _⟩
  · simp [Builtin.append_, run_underlying ht, sizeOf, typeInfo, hi, Builtin.lenOf, Builtin.firstCells]
  · simp [Builtin.append_, run_underlying ht, sizeOf, typeInfo, hi, Builtin.lenOf, Builtin.firstCells, hnc, storeCells]
end

/-! ### Rows in a row -/
section
variable {r : Option Nat} {S : Nat → Prop} {w W : World} {l : List Ent} {vs : List Value} {ls : List (List Value)} {e : TypeId}
theorem Mm.fam (h : Mm r S w W l) (i : Nat) (hi : l[i]? = some (.fam vs ls e)) : Fam W vs ls e := h.ok i _ hi
end
/-- What a family's row reads as. -/
theorem Fam.rs {α : Type} {enc : α → List Value} {W : World} {vs : List Value} {ls : List (List α)} {e : TypeId} (h : Fam W vs (ls.map fun l => l.flatMap enc) e) (hlen : ∀ x, (enc x).length = 1) (k : Nat) (hk : k < ls.length) (dv : Value) : Rs enc 1 (ls.getD k []) (vs.getD k dv) W := by
  have hkv : k < vs.length := by rw [h.1, List.length_map]; exact hk
  have h1 := h.2.1 k vs[k] _ (List.getElem?_eq_getElem hkv) (by rw [List.getElem?_map, List.getElem?_eq_getElem hk]; rfl)
  rw [List.getD_eq_getElem?_getD, List.getD_eq_getElem?_getD, List.getElem?_eq_getElem hk, List.getElem?_eq_getElem hkv]
  refine Rs.row (e := e) ?_
  have h2 : (ls[k].flatMap enc).length = ls[k].length := by rw [flat_len hlen, Nat.mul_one]
  rw [h2] at h1
  exact h1
theorem Fam.one {W : World} {vs : List Value} {ls : List (List Value)} {e : TypeId} {k : Nat} {v : Value} (h : Fam W (vs.set k v) ls e) (hk : k < vs.length) : v.oneCell' = true := by
  obtain ⟨l, _, hl⟩ := h.at (k := k) (v := v) (List.getElem?_set_self hk)
  exact own_one hl
theorem Fam.len {W : World} {vs : List Value} {α : Type} {enc : α → List Value} {ls : List (List α)} {e : TypeId} (h : Fam W vs (ls.map fun l => l.flatMap enc) e) : vs.length = ls.length := by rw [h.1, List.length_map]
section
variable {P : Program} {fn : Func} {p q : Tmp} {ty ty' : TypeId} {tmps : Array Value} {w : World} {g g' : Nat} {t t' : TypeId} {cs cs' : Array Value} {d d' : TypeDesc} {v : Value}
end
end Go.Proofs.YtjbnmeofjiokeaaGreatDoor.Mem
namespace Go.Proofs.YtjbnmeofjiokeaaGreatDoor.Mem
open Go.ChangeShapes Go.WideShapes Go.ChangeAt Go.RowKit Go.ChangeMaps
def Small {H : Type} (R : Nat) (P : Program) (t : TypeId) (d : DataW H) : Prop := ∀ n ∈ DataW.weights P t d, n ≤ R
theorem weights_all {H : Type} {P : Program} {e : TypeId} {d : DataW H} : ∀ {l : List (DataW H)}, d ∈ l → ∀ n ∈ DataW.weights P e d, n ∈ DataW.weightsAll P e l
  | x :: l, h, n, hn => by
    unfold DataW.weightsAll
    rcases List.mem_cons.1 h with rfl | h
    · exact List.mem_append.2 (.inl hn)
    · exact List.mem_append.2 (.inr (weights_all h n hn))
theorem spot_none {W : World} {a : Addr} {v : Value} (h : W.cell? ((a.add 0).add 0) = some v) : a.spot = none := by
  have := World.cell?_spot h
  simpa [Addr.add] using this
theorem field_open {R : Nat} {P : Program} {T : TypeId} {fs : Array Field} (ht : P.underlying T = some (.struct fs)) {H : Type} {enc : TypeId × Value → H} {W : World} {base : Nat} {held : Bool} {m : Nat} {cs : List Value} {x : DataW H × List MemPlace} (h : DataW.trod enc P W base (fun _ => true) held m T cs = some x) (hs : Small R P T x.1) :
    cs.length = P.cellsOf T ∧ ∃ n, ∀ (i : Nat) (f : Field), fs[i]? = some f → ∃ y, DataW.trod enc P W base (fun _ => true) held n f.type ((cs.drop f.offset).take (P.cellsOf f.type)) = some y ∧ Small R P f.type y.1 := by
  obtain ⟨xs, n, _, hx, hl, hlen, hel⟩ := DataW.trod_struct ht h
  refine ⟨hl, n, fun i f hf => ?_⟩
  have hi : i < fs.size := (Array.getElem?_eq_some_iff.1 hf).1
  have h1 := hel i f hf
  rw [List.getElem?_eq_getElem (by omega)] at h1
  refine ⟨_, h1, fun w hw => hs w ?_⟩
  rw [hx]
  unfold DataW.weights
  simp only [ht]
  exact DataW.weights_mem_each (j := i) (t := f.type) (d := (xs[i]'(by omega)).1) (by simp [hf]) (by rw [List.getElem?_map, List.getElem?_eq_getElem (by omega)]; rfl) w hw
end Go.Proofs.YtjbnmeofjiokeaaGreatDoor.Mem
namespace Go.Proofs.YtjbnmeofjiokeaaGreatDoor.Ev
open Go.ChangeShapes Go.WideShapes Go.ChangeAt Go.RowKit Go.ChangeMaps
open Go.Proofs.YtjbnmeofjiokeaaGreatDoor.Mem
set_option linter.unusedVariables false
def In (W : World) : Nat → Prop := fun g => g < W.heap.size
def reps (W : World) (l : List V) (c : List Value) : Prop := ∀ (q : Nat) (y : V) (v : Value), l[q]? = some y → c[q]? = some v → Rep (In W) W G0 y v
/-- What comes in at a type stands for a value. -/
def OpV (R : Nat) (P : Program) (t : TypeId) (k : Nat) {α : Type} (ev : α → V) (ok : α → Prop) : Prop :=
  ∀ {H : Type} {enc : TypeId × Value → H} {W : World} {base : Nat} {held : Bool} {m : Nat} {c : List Value} {x : DataW H × List MemPlace}, DataW.trod enc P W base (fun _ => true) held m t c = some x → Mem.Small R P t x.1 → ∃ y, ok y ∧ c.length = k ∧ reps W (cs (ev y)) c
theorem reps_nil (W : World) (c : List Value) : reps W [] c := fun q y v h => by simp at h
theorem reps_cons {W : World} {l rest : List V} {c : List Value} {off k : Nat} (h : reps W l ((c.drop off).take k)) (hl : l.length = k) (hr : reps W rest (c.drop (off + k))) : reps W (l ++ rest) (c.drop off) := fun q y v h1 h2 => by
  rcases Nat.lt_or_ge q k with hq | hq
  · rw [List.getElem?_append_left (by omega)] at h1
    exact h q y v h1 (by rw [List.getElem?_take_of_lt hq]; exact h2)
  · rw [List.getElem?_append_right (by omega), hl] at h1
    refine hr (q - k) y v h1 ?_
    rw [List.getElem?_drop] at h2 ⊢
    rw [← h2]
    congr 1
    omega
theorem reps_one {W : World} {y : V} {v : Value} (h : Rep (In W) W G0 y v) : reps W [y] [v] := fun q y' v' h1 h2 => by
  cases q with
  | zero => simp at h1 h2; subst h1; subst h2; exact h
  | succ q => simp at h1
section
variable {R : Nat} {P : Program} {t e : TypeId}
theorem opv_int {k : IntKind} (ht : P.underlying t = some (.int k)) : OpV R P t 1 (fun n : Int => .n k n) (fun n => (Lit.int k n).wf = true) := by
  intro H enc W base held m c x h _
  obtain ⟨n, rfl, _, hw⟩ := DataW.trod_int ht h
  exact ⟨n, hw, rfl, reps_one (.n _ _ _)⟩
theorem opv_string (ht : P.underlying t = some .string) : OpV R P t 1 V.s (fun s => s.length ≤ R) := by
  intro H enc W base held m c x h hs
  obtain ⟨s, rfl, hx, _⟩ := DataW.trod_string ht h
  refine ⟨bl s, hs s.data.toList.length (by rw [hx]; simp [DataW.weights]), rfl, reps_one ?_⟩
  have := Rep.s (F := In W) (W := W) G0 (bl s)
  rwa [tx_bl] at this
theorem opv_bool (ht : P.underlying t = some .bool) : OpV R P t 1 V.b (fun _ => True) := by
  intro H enc W base held m c x h _
  obtain ⟨b, rfl, _⟩ := DataW.trod_bool ht h
  exact ⟨b, trivial, rfl, reps_one (.b _ _)⟩
theorem opv_slice {α : Type} {ev : α → V} {ok : α → Prop} {k b : Nat} (ht : P.underlying t = some (.slice e)) (hk : P.cellsOf e = k) (hb : P.bytesOf e = b) (hk0 : 0 < k) (hlen : ∀ y, (cs (ev y)).length = k) (hm : ∀ y i, men (ev y) i = false) (d : α) (O : OpV R P e k ev ok) :
    OpV R P t 1 (fun l : List α => .sl k α d l ev) (fun l => (∀ y ∈ l, ok y) ∧ l.length * b ≤ R) := by
  intro H enc W base held m c x h hs
  rcases Go.Deep.open_slice ht h with ⟨hcs, _⟩ | ⟨a, len, cap, m', n, D, Pl, hcs, _, hlc, hl, hm', hx, hel⟩
  · subst hcs
    exact ⟨[], ⟨fun y hy => (by cases hy), by simp⟩, rfl, reps_one (.sl0 _ _ _ _ _ _ _)⟩
  · subst hcs
    simp only [if_true] at hm'
    subst hm'
    rw [hk] at hel
    have hw : ∀ i, i < len → ∃ p : α × List Value, W.cells? base (a.add (i * k)) k = some p.2 ∧ ok p.1 ∧ reps W (cs (ev p.1)) p.2 := by
      intro i hi
      obtain ⟨cs', h1, h2⟩ := hel i (by omega)
      obtain ⟨y, hy, _, h3⟩ := O h2 (fun n hn => hs n (by
        rw [hx]
        unfold DataW.weights
        simp only [ht]
        exact List.mem_cons_of_mem _ (List.mem_append.2 (.inl (weights_all (d := D i) (List.mem_map.2 ⟨i, List.mem_range.2 hi, rfl⟩) n hn)))))
      exact ⟨(y, cs'), h1, hy, h3⟩
    haveI : Inhabited (α × List Value) := ⟨(d, [])⟩
    obtain ⟨Y, hY⟩ := Go.Deep.choose_lt hw
    have hll : ((List.range len).map fun i => (Y i).1).length = len := by simp
    have hget : ∀ (i : Nat) (y : α), ((List.range len).map fun i => (Y i).1)[i]? = some y → i < len ∧ y = (Y i).1 := fun i y h => by
      rw [List.getElem?_map] at h
      rcases Nat.lt_or_ge i len with hi | hi
      · rw [List.getElem?_range hi, Option.map_some, Option.some.injEq] at h
        exact ⟨hi, h.symm⟩
      · rw [List.getElem?_eq_none (by simpa using hi)] at h
        cases h
    refine ⟨(List.range len).map fun i => (Y i).1, ⟨fun y hy => ?_, ?_⟩, rfl, reps_one ?_⟩
    · obtain ⟨i, hi, rfl⟩ := List.mem_map.1 hy
      exact (hY i (List.mem_range.1 hi)).2.1
    · have h1 := hs ((((List.range len).map D).length + ((List.range (m' - len)).map fun j => D (len + j)).length) * P.bytesOf e) (by
        rw [hx]
        unfold DataW.weights
        simp only [ht]
        exact List.mem_cons_self)
      rw [hll]
      rw [hb] at h1
      simp only [List.length_map, List.length_range] at h1
      exact Nat.le_trans (Nat.mul_le_mul_right _ (by omega)) h1
    · by_cases h0 : len = 0
      · subst h0
        exact .sl0 _ _ _ _ _ _ _
      · have hc0 := World.cells?_some (hY 0 (by omega)).1
        have c0 := hc0.2.2 0 hk0
        have hl0 : 0 < (Y 0).2.length := by
          rcases Nat.eq_zero_or_pos (Y 0).2.length with hz | hz
          · have := hc0.1
            omega
          · exact hz
        have hspot : a.spot = none := by
          rw [List.getElem?_eq_getElem hl0, Nat.zero_mul] at c0
          exact spot_none c0
        obtain ⟨b', o', s'⟩ := a
        obtain rfl : s' = none := hspot
        have hcell : ∀ i, i < len → ∀ q, q < k → W.cell? ⟨b', o' + (i * k + q), none⟩ = some ((Y i).2.getD q undef) := fun i hi q hq => by
          have h1 := World.cells?_some (hY i hi).1
          have h2 := h1.2.2 q hq
          rw [add_lit, add_lit, Nat.add_assoc] at h2
          rw [h2, List.getD_eq_getElem?_getD, List.getElem?_eq_getElem (by have := h1.1; omega)]
          rfl
        have hlt : b' < W.heap.size := block_lt_of_cell (hcell 0 (by omega) 0 hk0)
        have hR := Rep.sl (F := In W) (W := W) G0 k α d ((List.range len).map fun i => (Y i).1) ev b' o' m' (fun i q => (Y i).2.getD q undef) hlt (by rw [hll]; exact hlc) (fun i y h i' => hm y i') (fun i y h => hlen y) (fun i y q yv h1 h2 => ?_) (fun i y q yv h1 h2 => ?_)
        · rw [hll] at hR
          exact hR
        · obtain ⟨hi, rfl⟩ := hget i y h1
          exact hcell i hi q (by have := (List.getElem?_eq_some_iff.1 h2).1; rw [hlen] at this; exact this)
        · obtain ⟨hi, rfl⟩ := hget i y h1
          have hq : q < k := by have := (List.getElem?_eq_some_iff.1 h2).1; rw [hlen] at this; exact this
          have h3 := World.cells?_some (hY i hi).1
          exact (hY i hi).2.2 q yv _ h2 (by rw [List.getD_eq_getElem?_getD, List.getElem?_eq_getElem (by have := h3.1; omega)]; rfl)
/-- A field of a struct. -/
theorem opv_field {α : Type} {ev : α → V} {ok : α → Prop} {k off : Nat} {H : Type} {enc : TypeId × Value → H} {W : World} {base : Nat} {held : Bool} {n : Nat} {c : List Value} (O : OpV R P e k ev ok) (hk : P.cellsOf e = k)
    (h : ∃ y, DataW.trod enc P W base (fun _ => true) held n e ((c.drop off).take (P.cellsOf e)) = some y ∧ Mem.Small R P e y.1) : ∃ y, ok y ∧ reps W (cs (ev y)) ((c.drop off).take k) := by
  obtain ⟨y, h1, h2⟩ := h
  rw [hk] at h1
  obtain ⟨z, h3, _, h4⟩ := O h1 h2
  exact ⟨z, h3, h4⟩
theorem arg_ag {α : Type} {evl : α → List V} {ok : α → Prop} {k : Nat} (O : OpV R P t k (fun y => .ag (evl y)) ok) (hlen : ∀ y, (evl y).length = k) {H : Type} {enc : TypeId × Value → H} {W : World} {base : Nat} {held : Bool} {c : Array Value} {d : DataW H} {p : List MemPlace} (h : DataW.Trod enc P W base (fun _ => true) held t (.agg c) d p) (hs : Mem.Small R P t d) : ∃ y, ok y ∧ Rep (In W) W G0 (.ag (evl y)) (.agg c) := by
  obtain ⟨fuel, hh⟩ := h
  obtain ⟨y, h2, h3, h4⟩ := O hh hs
  refine ⟨y, h2, .ag _ _ _ ?_ fun q yv v e1 e2 => h4 q yv v e1 ?_⟩
  · rw [hlen]; simpa [Value.cells] using h3
  · simpa [Value.cells] using e2
end
end Go.Proofs.YtjbnmeofjiokeaaGreatDoor.Ev
