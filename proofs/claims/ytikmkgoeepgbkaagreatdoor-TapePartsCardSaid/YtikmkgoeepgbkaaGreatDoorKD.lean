/- Rows of one's own that a call hands over. -/
import Derived.Test.YtikmkgoeepgbkaaGreatDoorKC
import Derived.Scope
set_option linter.all false
namespace Go.Proofs.YtikmkgoeepgbkaaGreatDoor.Ev
open Go.RowKit
open Go.Proofs.YtikmkgoeepgbkaaGreatDoor.Mem
set_option linter.unusedVariables false
set_option linter.unusedSimpArgs false

def isRow : Bk → Prop
  | .row _ _ _ _ _ _ _ => True
  | _ => False
/-- Which of the new names. -/
def wh (i : Nat) : List Nat → Option Nat
  | [] => none
  | x :: l => if i = x then some 0 else (wh i l).map (· + 1)
theorem wh_get {i k : Nat} : ∀ {l : List Nat}, wh i l = some k → l[k]? = some i
  | [], h => by simp [wh] at h
  | x :: l, h => by
    simp only [wh] at h
    split at h
    · rename_i e; cases h; simp [e]
    · cases e : wh i l with
      | none => rw [e] at h; cases h
      | some k' => rw [e] at h; cases h; simpa using wh_get e
theorem get_wh {i k : Nat} : ∀ {l : List Nat}, l.Nodup → l[k]? = some i → wh i l = some k
  | [], _, h => by simp at h
  | x :: l, hn, h => by
    simp only [wh]
    cases k with
    | zero => simp at h; rw [if_pos h.symm]
    | succ k =>
      have h : l[k]? = some i := by simpa using h
      rw [if_neg (fun e => (List.nodup_cons.1 hn).1 (by rw [← e]; exact List.mem_of_getElem? h)), get_wh (List.nodup_cons.1 hn).2 h]
      rfl
theorem wh_none {i : Nat} : ∀ {l : List Nat}, wh i l = none → i ∉ l
  | [], _, h => by cases h
  | x :: l, e, h => by
    simp only [wh] at e
    split at e
    · cases e
    · rename_i hx
      rcases List.mem_cons.1 h with h | h
      · exact hx h
      · exact wh_none (by simpa using e) h
def St.adds (σ : St) (d : Nat) (v : V) (ids : List Nat) (rb : List Bk) : St :=
  { sl := fun t => if t = d then v else σ.sl t, bk := fun i => match wh i ids with | some k => rb[k]? | none => σ.bk i, al := fun i => (wh i ids).isSome || σ.al i }
section
variable {P : Program} {L : World → Prop} {o : Oper} {w0 : Bs} {S : Nat → Prop} {m : Nat} {G : Gm} {F F' : Nat → Prop} {σ : St} {a : Act} {W W' : World} {k : St → Prop}
theorem RelG.calledO (hR : RelG w0 S m G F σ a W) {d : Nat} (hd : d < m) (hW : Below W.heap.size W W') {G' : Gm} {ids : List Nat} {rb : List Bk} (hlen : ids.length = rb.length) (hnd : ids.Nodup) (hal0 : ∀ i ∈ ids, σ.al i = false ∧ i < 1000000000) (hrow : ∀ b ∈ rb, isRow b)
    (hF' : ∀ g, F' g → g < W'.heap.size ∧ (W.heap.size ≤ g ∨ F g)) {r : V} {x : Value} (hr : Rep F' W' G' r x) (hm : ∀ k, men r k = true → k < rb.length)
    (hb : ∀ k b, rb[k]? = some b → BkRep F' W' G' k b ∧ ∀ g, b.ob G' k g → W.heap.size ≤ g ∧ g < W'.heap.size ∧ ¬ F' g) (hap : ∀ (k k' : Nat) (b b' : Bk) (g : Nat), k ≠ k' → rb[k]? = some b → rb[k']? = some b' → b.ob G' k g → ¬ b'.ob G' k' g) :
    ∃ G2, RelG w0 S m G2 (fun g => F g ∨ F' g) (σ.adds d (rnV (fun k => ids.getD k 0) r) ids rb) (a.put (some d) x) W' := by
  have hal : ∀ i ∈ ids, σ.al i = false := fun i h => (hal0 i h).1
  let G2 : Gm := fun i => match wh i ids with | some k => G' k | none => G i
  have hF : ∀ g, F g → W'.heap[g]? = W.heap[g]? := fun g hg => hW.block g (hR.fin g hg).1
  have hnew : ∀ i k, wh i ids = some k → G2 i = G' k := fun i k h => by simp only [G2, h]
  have hold : ∀ i, wh i ids = none → G2 i = G i := fun i h => by simp only [G2, h]
  have halo : ∀ i, σ.al i = true → wh i ids = none := fun i h => by
    cases e : wh i ids with
    | none => rfl
    | some k => have := hal i (List.mem_of_getElem? (wh_get e)); rw [h] at this; cases this
  have hid : ∀ k, k < rb.length → wh (ids.getD k 0) ids = some k := fun k hk => by
    refine get_wh hnd ?_
    rw [List.getD_eq_getElem?_getD, List.getElem?_eq_getElem (by omega)]
    rfl
  have hrm : ∀ i, men (rnV (fun k => ids.getD k 0) r) i = true → ∃ k, wh i ids = some k := fun i h => by
    obtain ⟨k, h1, rfl⟩ := men_rnV r i h
    exact ⟨k, hid k (hm k h1)⟩
  have obn : ∀ (i k : Nat) (b : Bk) (g : Nat), wh i ids = some k → isRow b → (b.ob G2 i g ↔ b.ob G' k g) := fun i k b g h hb => by
    cases b with
    | cells => exact hb.elim
    | itr => exact hb.elim
    | row => simp only [Bk.ob, hnew i k h]
  have obo : ∀ (i : Nat) (b : Bk) (g : Nat), wh i ids = none → (b.ob G2 i g ↔ b.ob G i g) := fun i b g h => ob_ren (hold i h) g
  have bkn : ∀ i k b, wh i ids = some k → rb[k]? = some b → BkRep F' W' G2 i b := fun i k b h e => by
    have h1 := (hb k b e).1
    have h2 := hrow b (List.mem_of_getElem? e)
    cases b with
    | cells => exact h2.elim
    | itr => exact h2.elim
    | row =>
      obtain ⟨xs, k1, k2, k3⟩ := h1
      exact ⟨xs, by rw [hnew i k h]; exact k1, by rw [hnew i k h]; exact k2, k3⟩
  refine ⟨G2, hR.below.trans (.of hW hR.below.size), by simp [Act.put, hR.size], fun t => ?_, fun i b h => ?_, fun i b g h hg => ?_, fun i i' b b' g hii h h' hg => ?_, fun g hg => ?_, hR.defers, fun t i h => ?_, fun i b h => ?_, fun i A h => ⟨(hR.fix i A h).1, by have h1 := (hR.fix i A h).1; rw [hold i (by cases e : wh i ids with | none => rfl | some k => exact absurd (hal0 i (List.mem_of_getElem? (wh_get e))).2 (by omega))]; exact (hR.fix i A h).2⟩, hR.mlt⟩
  · simp only [St.adds, Act.put]
    by_cases e : t = d
    · subst e
      rw [if_pos rfl]
      have := (hr.rename (G2 := G2) (ρ := fun k => ids.getD k 0) fun k hk => hnew _ k (hid k (hm k hk))).wide (F' := fun g => F g ∨ F' g) fun g => .inr
      simpa [Array.getD_eq_getD_getElem?, hR.size, hd] using this
    · rw [if_neg e]
      have := (((hR.slot t).keep hF).ren (G' := G2) fun i hi => hold i (halo i (hR.wf t i hi))).wide (F' := fun g => F g ∨ F' g) fun g => .inl
      simpa [Array.getD_eq_getD_getElem?, Array.getElem?_setIfInBounds_ne (Ne.symm e)] using this
  · simp only [St.adds] at h
    cases e : wh i ids with
    | some k => rw [e] at h; exact (bkn i k b e h).wide fun g => .inr
    | none =>
      rw [e] at h
      exact (((hR.blk i b h).keep hF fun g hg => hW.block g (hR.own i b g h hg).2.1).ren (hold i e) fun k hk => hold k (halo k ((hR.wfb i b h).2 k hk))).wide fun g => .inl
  · simp only [St.adds] at h
    cases e : wh i ids with
    | some k =>
      rw [e] at h
      rw [obn i k b g e (hrow b (List.mem_of_getElem? h))] at hg
      obtain ⟨h1, h2, h3⟩ := (hb k b h).2 g hg
      refine ⟨.inl (Nat.le_trans hR.below.size h1), h2, fun hf => ?_⟩
      rcases hf with hf | hf
      · exact absurd (hR.fin g hf).1 (by omega)
      · exact h3 hf
    | none =>
      rw [e] at h
      rw [obo i b g e] at hg
      obtain ⟨k1, k2, k3⟩ := hR.own i b g h hg
      refine ⟨k1, Nat.lt_of_lt_of_le k2 hW.size, fun hf => ?_⟩
      rcases hf with hf | hf
      · exact k3 hf
      · rcases (hF' g hf).2 with h | h
        · omega
        · exact k3 h
  · simp only [St.adds] at h h'
    have mix : ∀ (i i' k : Nat) (b b' : Bk) (g : Nat), wh i ids = some k → rb[k]? = some b → wh i' ids = none → σ.bk i' = some b' → b.ob G2 i g → ¬ b'.ob G2 i' g := fun i i' k b b' g e h e' h' hg hg' => by
      rw [obn i k b g e (hrow b (List.mem_of_getElem? h))] at hg
      rw [obo i' b' g e'] at hg'
      have h1 := ((hb k b h).2 g hg).1
      have h2 := (hR.own i' b' g h' hg').2.1
      omega
    cases e : wh i ids with
    | some k =>
      rw [e] at h
      cases e' : wh i' ids with
      | some k' =>
        rw [e'] at h'
        rw [obn i k b g e (hrow b (List.mem_of_getElem? h))] at hg
        rw [obn i' k' b' g e' (hrow b' (List.mem_of_getElem? h'))]
        refine hap k k' b b' g (fun hk => hii ?_) h h' hg
        subst hk
        have h1 := wh_get e
        have h2 := wh_get e'
        rw [h1] at h2
        exact Option.some.inj h2
      | none => rw [e'] at h'; exact mix i i' k b b' g e h e' h' hg
    | none =>
      rw [e] at h
      cases e' : wh i' ids with
      | some k' => rw [e'] at h'; exact fun hg' => mix i' i k' b' b g e' h' e h hg' hg
      | none =>
        rw [e'] at h'
        rw [obo i b g e] at hg
        rw [obo i' b' g e']
        exact hR.apart i i' b b' g hii h h' hg
  · rcases hg with hg | hg
    · obtain ⟨h1, h2⟩ := hR.fin g hg
      exact ⟨Nat.lt_of_lt_of_le h1 hW.size, h2⟩
    · obtain ⟨h1, h2⟩ := hF' g hg
      refine ⟨h1, ?_⟩
      rcases h2 with h2 | h2
      · exact .inl (.inl (Nat.le_trans hR.below.size h2))
      · exact (hR.fin g h2).2
  · simp only [St.adds] at h ⊢
    by_cases e : t = d
    · rw [if_pos e] at h
      obtain ⟨k, hk⟩ := hrm i h
      simp [hk]
    · rw [if_neg e] at h
      simp [hR.wf t i h]
  · simp only [St.adds] at h ⊢
    cases e : wh i ids with
    | some k =>
      rw [e] at h
      have h2 := hrow b (List.mem_of_getElem? h)
      cases b with
      | cells => exact h2.elim
      | itr => exact h2.elim
      | row => exact ⟨by simp, fun k hk => by simp [Bk.men] at hk⟩
    | none =>
      rw [e] at h
      obtain ⟨k1, k2⟩ := hR.wfb i b h
      exact ⟨by simp [k1], fun k hk => by simp [k2 k hk]⟩
mutual
/-- A value without references but to rows of one's own. -/
def flatO : V → Bool
  | .b _ => true
  | .n _ _ => true
  | .s _ => true
  | .nl => true
  | .pn => true
  | .inil => true
  | .fn _ => true
  | .ow _ _ => true
  | .ag l => flatOL l
  | .tp l => flatOL l
  | .it _ v => flatO v
  | _ => false
def flatOL : List V → Bool
  | [] => true
  | v :: l => flatO v && flatOL l
end
theorem flatOL_of : ∀ {l : List V} {q : Nat} {y : V}, flatOL l = true → l[q]? = some y → flatO y = true
  | [], _, _, _, h => by simp at h
  | v :: l, 0, y, hf, h => by
    simp only [flatOL, Bool.and_eq_true] at hf
    simp at h
    rw [← h]; exact hf.1
  | v :: l, q + 1, y, hf, h => by
    simp only [flatOL, Bool.and_eq_true] at hf
    exact flatOL_of hf.2 (by simpa using h)
theorem flatO_rep {v : V} {u : Value} (h : Rep F W G v u) (hf : flatO v = true) : Rep (fun _ => False) W G v u := by
  induction h with
  | sl => simp [flatO] at hf
  | sl0 => simp [flatO] at hf
  | px => simp [flatO] at hf
  | j => simp [flatO] at hf
  | p => simp [flatO] at hf
  | pe => simp [flatO] at hf
  | ag G l vs hl hr ih => exact .ag _ _ _ hl fun q y v e1 e2 => ih q y v e1 e2 (flatOL_of (by simpa only [flatO] using hf) e1)
  | tp G l vs hl hr ih => exact .tp _ _ _ hl fun q y v e1 e2 => ih q y v e1 e2 (flatOL_of (by simpa only [flatO] using hf) e1)
  | it G t v x h ih => exact .it _ _ _ _ (ih (by simpa only [flatO] using hf))
  | ow G id len ao c h => exact .ow _ _ _ _ _ h
  | _ => constructor
def flatB : Bk → Prop
  | .row _ _ _ _ l e _ => ∀ x ∈ l, ∀ y ∈ cs (e x), flat y = true
  | _ => False
theorem flatB_rep {i : Nat} {b : Bk} (h : BkRep F W G i b) (hf : flatB b) : BkRep (fun _ => False) W G i b := by
  cases b with
  | cells => exact hf.elim
  | itr => exact hf.elim
  | row T z α d l e c =>
    obtain ⟨xs, h1, h2, h3⟩ := h
    refine ⟨xs, h1, h2, fun q x hq => ?_⟩
    obtain ⟨k1, k2, k3⟩ := h3 q x hq
    refine ⟨k1, k2, fun k y hy => ?_⟩
    obtain ⟨v, e1, e2⟩ := k3 k y hy
    exact ⟨v, e1, flat_rep e2 (hf x (List.mem_of_getElem? hq) y (List.mem_of_getElem? hy))⟩
/-- What a call gives, with rows that are handed over. -/
def SpecO (P : Program) (L : World → Prop) (f : Nat) (av : List V) (r : V) (rb : List Bk) : Prop :=
  (∃ fn, P.funcs[f]? = some fn ∧ fn.body.isNone = false ∧ (fn.name == "runtime.NumGoroutine") = false) ∧ ((∀ k, men r k = true → k < rb.length) ∧ ∀ b ∈ rb, isRow b) ∧
  ∀ (S : Nat → Prop) (W : World) (xs : Array Value), L W → xs.size = av.length → (∀ (q : Nat) (y : V) (v : Value), av[q]? = some y → xs[q]? = some v → Rep S W G0 y v) → (∀ g, S g → g < W.heap.size) →
    Calls P f xs W fun e W' => ∃ v F' G', e = .returned v ∧ Below W.heap.size W W' ∧ (∀ g, F' g → g < W'.heap.size ∧ (W.heap.size ≤ g ∨ S g)) ∧ Rep F' W' G' r v ∧
      (∀ (k : Nat) (b : Bk), rb[k]? = some b → BkRep F' W' G' k b ∧ ∀ g, b.ob G' k g → W.heap.size ≤ g ∧ g < W'.heap.size ∧ ¬ F' g) ∧ ∀ (k k' : Nat) (b b' : Bk) (g : Nat), k ≠ k' → rb[k]? = some b → rb[k']? = some b' → b.ob G' k g → ¬ b'.ob G' k' g
def xCallO (P : Program) (L : World → Prop) (f d : Nat) (av : List V) (σ : St) (k : St → Prop) : Prop :=
  ∃ bs r rb ids, ((∀ i, menL av i = false) ∧ leL av bs ∨ (flatO r = true ∧ ∀ b ∈ rb, flatB b) ∧ leL (vwL σ.bk av) bs) ∧ SpecO P L f bs r rb ∧ (ids.length = rb.length ∧ ids.Nodup ∧ ∀ i ∈ ids, σ.al i = false ∧ i < 1000000000) ∧ k (σ.adds d (rnV (fun k => ids.getD k 0) r) ids rb)
theorem callO_ok {d f : Nat} {xs : Array Operand} {ts : Array TypeId} (ho : o.op = .call { callee := .value (.func f), args := xs, argTypes := ts }) (hd : o.dst = some d) (hdm : d < m) (hR : RelG w0 S m G F σ a W) (hL : L W) (h : xCallO P L f d (xs.toList.map σ.rd) σ k) : Eff P w0 S m o k a W := by
  obtain ⟨bs, r, rb, ids, hmode, ⟨⟨fn, f1, f2, f3⟩, ⟨hm, hrow⟩, hS⟩, ⟨i1, i2, i3⟩, hk⟩ := h
  intro Kc Q hK
  unfold Oper.wp
  rw [run_call (P := P) (W := W) ho f1 f2 f3, Oper.upon_enter, hd]
  have hargs : ∀ (q : Nat) (y : V) (v : Value), (xs.toList.map σ.rd)[q]? = some y → (xs.map a.eval)[q]? = some v → Rep F W G y v := by
    intro q y v e1 e2
    rw [List.getElem?_map, Array.getElem?_toList] at e1
    rw [Array.getElem?_map] at e2
    cases hx : xs[q]? with
    | none => rw [hx] at e1; cases e1
    | some x =>
      rw [hx, Option.map_some, Option.some.injEq] at e1 e2
      rw [← e1, ← e2]
      exact hR.rd x
  rcases hmode with ⟨h1, h2⟩ | ⟨⟨h1, h1b⟩, h2⟩
  · obtain ⟨l1, l2⟩ := leL_get h2
    refine (hS F W (xs.map a.eval) hL (by rw [← l1]; simp) (fun q y v e1 e2 => ?_) (fun g hg => (hR.fin g hg).1)).mono ?_
    · obtain ⟨y', e3, e4⟩ := l2 q y e1
      refine le_rep ((hargs q y' v e3 e2).ren fun i hi => ?_) e4
      have := menL_of e3 hi
      rw [h1 i] at this
      cases this
    · rintro e W' ⟨v, F', G', rfl, hb, hF', hr, hbk, hap⟩
      obtain ⟨G2, hR2⟩ := hR.calledO hdm hb i1 i2 i3 hrow hF' hr hm hbk hap
      exact hK _ _ _ hk ⟨G2, _, hR2⟩
  · obtain ⟨l1, l2⟩ := leL_get h2
    refine (hS (Sees G F σ) W (xs.map a.eval) hL (by rw [← l1, vwL_len]; simp) (fun q y v e1 e2 => ?_) (fun g hg => ?_)).mono ?_
    · obtain ⟨y', e3, e4⟩ := l2 q y e1
      rw [vwL_get] at e3
      cases hq : (xs.toList.map σ.rd)[q]? with
      | none => rw [hq] at e3; cases e3
      | some y2 =>
        rw [hq, Option.map_some, Option.some.injEq] at e3
        subst e3
        exact le_rep (vw_rep hR (hargs q y2 v hq e2)) e4
    · rcases hg with hg | ⟨i, b, h1, h2⟩
      · exact (hR.fin g hg).1
      · exact (hR.own i b g h1 h2).2.1
    · rintro e W' ⟨v, F', G', rfl, hb, hF', hr, hbk, hap⟩
      obtain ⟨G2, hR2⟩ := hR.calledO (F' := fun _ => False) hdm hb i1 i2 i3 hrow (fun g hg => hg.elim) (flatO_rep hr h1) hm (fun k b e => ⟨flatB_rep (hbk k b e).1 (h1b b (List.mem_of_getElem? e)), fun g hg => ⟨((hbk k b e).2 g hg).1, ((hbk k b e).2 g hg).2.1, fun h => h⟩⟩) hap
      exact hK _ _ _ hk ⟨G2, _, hR2⟩
/-- Said of the state otherwise, or less of it, J holds. -/
def Wk (J : St → Prop) (σ : St) : Prop := ∀ (w0 : Bs) (S : Nat → Prop) (m : Nat) (a : Act) (W : World), Rel w0 S m σ a W → ∃ σ', Rel w0 S m σ' a W ∧ J σ'
/-- A call ahead of which the state is told otherwise: rows are let go, nil slices become rows. -/
def xCallF (P : Program) (L : World → Prop) (f d : Nat) (xs : List Operand) (σ : St) (k : St → Prop) : Prop :=
  Wk (fun σ' => xCall P L f d (xs.map σ'.rd) σ' k ∨ xCallP P L f d (xs.map σ'.rd) σ' k) σ
/-! ### Operations in the text's order, rows handed over too -/
def exX (C : Cx) (o : Oper) (k : St → Prop) (σ : St) : Prop := match o.op, o.dst with
  | .call ⟨.value (.func f), xs, _⟩, some d => xCall C.P C.L f d (xs.toList.map σ.rd) σ k ∨ xCallO C.P C.L f d (xs.toList.map σ.rd) σ k ∨ xCallF C.P C.L f d xs.toList σ k ∨ xCallP C.P C.L f d (xs.toList.map σ.rd) σ k
  | .call ⟨.builtin .min, ⟨[x, y]⟩, ⟨[T, T']⟩⟩, some d => T = T' ∧ vMin C.P T (σ.rd x) (σ.rd y) (pk σ d k)
  | .convert T T' x, some d => vConv C.P T T' (vw σ.bk (σ.rd x)) (pk σ d k)
  | .range T x, some d => xRange C.P T d (σ.rd x) σ k
  | .next x true, some d => xNext d (σ.rd x) σ k
  | .binOp op T x y _, some d => vBinX C.P T y op (σ.rd x) (σ.rd y) (pk σ d k)
  | _, _ => exOp C o k σ
/-- A skipped operation leaves what is no truth: what it guards is skipped, too. -/
def exY (C : Cx) (ops : List Oper) (o : Oper) (k : St → Prop) (σ : St) : Prop := match o.guard with
  | none => exX C o k σ
  | some (j, w) => match (ops[j]?).bind (·.dst) with
    | some g => gspX (σ.sl g) g w (exX C o k) (skX o k) σ
    | none => False
def wpX (C : Cx) (ops : List Oper) : List Oper → (St → Prop) → St → Prop
  | [], Q, σ => Q σ
  | o :: l, Q, σ => exY C ops o (wpX C ops l Q) σ
theorem exX_ok {C : Cx} (hR : RelG w0 S m G F σ a W) (hm : ∀ d, o.dst = some d → d < m) (hLt : C.L w0.t) (hL : C.L W) (h : exX C o k σ) : Eff C.P w0 S m o k a W := by
  unfold exX at h
  split at h
  · rename_i e1 e2
    rcases h with h | h | h | h
    · exact call_ok e1 e2 (hm _ e2) hR hL h
    · exact callO_ok e1 e2 (hm _ e2) hR hL h
    · obtain ⟨σ', ⟨G', F', hR'⟩, h | h⟩ := h _ _ _ _ _ ⟨G, F, hR⟩
      · exact call_ok e1 e2 (hm _ e2) hR' hL h
      · exact callP_ok e1 e2 (hm _ e2) hR' hLt h
    · exact callP_ok e1 e2 (hm _ e2) hR hLt h
  · rename_i e1 e2; obtain ⟨rfl, h⟩ := h; exact eff_yd hR e2 (hm _ e2) (min_ok e1 hR h)
  · rename_i e1 e2; exact eff_yd hR e2 (hm _ e2) (conv_okR e1 (vw_rep hR (hR.rd _)) h)
  · rename_i e1 e2; exact range_ok e1 e2 (hm _ e2) hR h
  · rename_i e1 e2; exact next_ok e1 e2 (hm _ e2) hR h
  · rename_i e1 e2; exact eff_yd hR e2 (hm _ e2) (binX_ok e1 hR h)
  · exact exOp_ok hR hm hL h
theorem exY_ok {C : Cx} {ops : Array Oper} {K : Act → World → Prop} {Q : Exit → Act → World → Prop} (hR : RelG w0 S m G F σ a W) (hm : ∀ d, o.dst = some d → d < m) (hLt : C.L w0.t) (hL : C.L W) (h : exY C ops.toList o k σ) (hK : ∀ σ' a' W', k σ' → Rel w0 S m σ' a' W' → K a' W') :
    if Region.wanted o (yielded ops a.tmps) then o.wp C.P a W K Q ∨ (o.asks C.P a W ∧ LetsOut Q) else K (a.put o.dst undef) W := by
  unfold exY at h
  split at h
  · rename_i e
    rw [if_pos (by simp [Region.wanted, e])]
    exact .inl (exX_ok hR hm hLt hL h K Q hK)
  · rename_i j w e
    split at h
    · rename_i g hj
      unfold gspX at h
      split at h
      · rename_i hg
        have hy := yielded_u hR hj hg
        rw [if_neg (by simp [Region.wanted, e, hy])]
        exact hK _ _ _ h ⟨G, F, hR.putU o.dst hm⟩
      · unfold gsp at h
        split at h
        · rename_i x hg
          have hy := yielded_b hR hj hg
          by_cases hx : x = w
          · subst hx
            have h1 := h.1 rfl
            rw [hR.lit hg] at h1
            rw [if_pos (by simp [Region.wanted, e, hy])]
            exact .inl (exX_ok hR hm hLt hL h1 K Q hK)
          · have hx' : x = !w := by cases x <;> cases w <;> simp_all
            have h1 := h.2 hx'
            rw [← hx', hR.lit hg] at h1
            rw [if_neg (by simp [Region.wanted, e, hy, hx])]
            exact hK _ _ _ h1 ⟨G, F, hR.putU o.dst hm⟩
        · exact h.elim
    · exact h.elim
theorem wpX_ok {C : Cx} {ops : Array Oper} {Q : Exit → Act → World → Prop} (hS : Stab C.L) (hL : C.L w0.t) : ∀ (l : List Oper) (σ : St) (a : Act) (W : World), (∀ o ∈ l, ∀ d, o.dst = some d → d < m) → Rel w0 S m σ a W → wpX C ops.toList l k σ →
    (∀ σ' a' W', k σ' → Rel w0 S m σ' a' W' → Q .normal a' W') → wpList C.P ops Q l a W
  | [], σ, a, W, _, hR, h, hK => hK _ _ _ h hR
  | o :: l, σ, a, W, hm, ⟨G, F, hR⟩, h, hK => by
    unfold wpList
    exact exY_ok hR (hm o (by simp)) hL (hS _ _ hL hR.below.top) h fun σ' a' W' hk hR' => wpX_ok hS hL l σ' a' W' (fun o ho => hm o (by simp [ho])) hR' hk hK
end
end Go.Proofs.YtikmkgoeepgbkaaGreatDoor.Ev
namespace Go.Proofs.YtikmkgoeepgbkaaGreatDoor.Ev
open Go.RowKit
open Go.Proofs.YtikmkgoeepgbkaaGreatDoor.Mem
set_option linter.unusedVariables false
set_option linter.unusedSimpArgs false
/-- A call that is given blocks, none of them under a name that stays. -/
def xCallQ (P : Program) (L : World → Prop) (f d : Nat) (av : List V) (σ : St) (k : St → Prop) : Prop :=
  ∃ bs B r B' ρ ρ', leL av (rnL ρ bs) ∧ (∀ p ∈ B, σ.bk (ρ p.1) = some (rnB ρ p.2)) ∧ (∀ p ∈ B, ∀ q ∈ B, ρ p.1 = ρ q.1 → p.1 = q.1) ∧ SpecP P L f bs B r B' ∧
    (∀ p ∈ B', p.1 < 1000000000 ∧ σ.al (ρ' p.1) = false ∧ ρ' p.1 < 1000000000) ∧ (∀ p ∈ B', ∀ q ∈ B', ρ' p.1 = ρ' q.1 → p.1 = q.1) ∧ k (σ.giv d r B B' ρ ρ')
theorem xCallQ_P {P : Program} {L : World → Prop} {f d : Nat} {av : List V} {σ : St} {k : St → Prop} (h : xCallQ P L f d av σ k) : xCallP P L f d av σ k := by
  obtain ⟨bs, B, r, B', ρ, ρ', h1, h2, h3, h4, h5, h6, h7⟩ := h
  refine ⟨bs, B, r, B', ρ, ρ', h1, h2, h3, h4, fun p hp => ?_, h6, h7⟩
  rw [if_neg (by have := (h5 p hp).1; omega)]
  exact (h5 p hp).2
def inC (t : Nat) : List Nat → Bool
  | [] => false
  | k :: l => decide (t = k) || inC t l
def xCallD (C : Cx) (f d : Nat) (av : List V) (σ : St) (k : St → Prop) : Prop := xCall C.P C.L f d av σ k ∨ xCallO C.P C.L f d av σ k ∨ xCallQ C.P C.L f d av σ k
/-- Which calls are meant: those that the list names. -/
def xCallE (C : Cx) (f d : Nat) (av : List V) (σ : St) (k : St → Prop) : Prop := xCall C.P C.L f d av σ k ∨ xCallO C.P C.L f d av σ k ∨ xCallP C.P C.L f d av σ k
def callB (C : Cx) : Bool → Bool → Nat → Nat → List V → St → (St → Prop) → Prop
  | _, true, f, d, av, σ, k => xCallE C f d av σ k
  | false, false, f, d, av, σ, k => xCall C.P C.L f d av σ k
  | true, false, f, d, av, σ, k => xCallD C f d av σ k
def exXD (C : Cx) (o : Oper) (k : St → Prop) (σ : St) : Prop := match o.op, o.dst with
  | .call ⟨.value (.func f), xs, _⟩, some d => callB C (inC (2000000 + f) C.cut) (inC (3000000 + f) C.cut) f d (xs.toList.map σ.rd) σ k
  | _, _ => exOp C o k σ
def exYD (C : Cx) (ops : List Oper) (o : Oper) (k : St → Prop) (σ : St) : Prop := match o.guard with
  | none => exXD C o k σ
  | some _ => exG C ops o k σ
def wpD (C : Cx) (ops : List Oper) : List Oper → (St → Prop) → St → Prop
  | [], Q, σ => Q σ
  | o :: l, Q, σ => exYD C ops o (wpD C ops l Q) σ
/-- Calls as they are meant here; what may change places with one. -/
def isC (cu : List Nat) (o : Oper) : Bool := match o.guard, o.op, o.dst with
  | none, .call ⟨.value (.func f), _, _⟩, some _ => inC (2000000 + f) cu && !inC (3000000 + f) cu
  | _, _, _ => false
/-- Calls that nothing may change places with. -/
def isF (cu : List Nat) (o : Oper) : Bool := match o.guard, o.op, o.dst with
  | none, .call ⟨.value (.func f), _, _⟩, some _ => inC (3000000 + f) cu
  | _, _, _ => false
def soft (o : Oper) : Bool := match o.guard, o.op, o.dst with
  | none, .move _, some _ => true
  | none, .fieldAddr _ _ _, some _ => true
  | none, .load _ _, some _ => true
  | none, .alloc _, some _ => true
  | _, _, _ => false
def pairOk (cu : List Nat) (y o : Oper) : Bool := !isF cu y && !isF cu o && bif isC cu y then soft o else !isC cu o
def drawOk2 (cu : List Nat) (ar : Array Oper) : Bool := drawOk ar && ar.toList.zipIdx.all fun p => ar.toList.zipIdx.all fun q => !(decide (q.2 < p.2)) || rch ar (p.2 + 1) q.2 p.2 || pairOk cu q.1 p.1
theorem isC_shape {cu : List Nat} {o : Oper} (h : isC cu o = true) : ∃ f xs ts d ty pos af, o = ⟨some d, .call { callee := .value (.func f), args := xs, argTypes := ts }, ty, pos, af, none⟩ ∧ inC (2000000 + f) cu = true ∧ inC (3000000 + f) cu = false := by
  obtain ⟨dst, op, ty, pos, af, g⟩ := o
  unfold isC at h
  dsimp only at h
  split at h
  · simp only [Bool.and_eq_true, Bool.not_eq_true'] at h
    exact ⟨_, _, _, _, _, _, _, rfl, h.1, h.2⟩
  · cases h
theorem isF_shape {cu : List Nat} {o : Oper} (h : isF cu o = true) : ∃ f xs ts d ty pos af, o = ⟨some d, .call { callee := .value (.func f), args := xs, argTypes := ts }, ty, pos, af, none⟩ ∧ inC (3000000 + f) cu = true := by
  obtain ⟨dst, op, ty, pos, af, g⟩ := o
  unfold isF at h
  dsimp only at h
  split at h
  · exact ⟨_, _, _, _, _, _, _, rfl, h⟩
  · cases h
theorem soft_shape {o : Oper} (h : soft o = true) : ∃ op d ty pos af, o = ⟨some d, op, ty, pos, af, none⟩ ∧ ((∃ x, op = .move x) ∨ (∃ T x i, op = .fieldAddr T x i) ∨ (∃ T x, op = .load T x) ∨ ∃ T, op = .alloc T) := by
  obtain ⟨dst, op, ty, pos, af, g⟩ := o
  unfold soft at h
  dsimp only at h
  split at h
  · exact ⟨_, _, _, _, _, rfl, .inl ⟨_, rfl⟩⟩
  · exact ⟨_, _, _, _, _, rfl, .inr (.inl ⟨_, _, _, rfl⟩)⟩
  · exact ⟨_, _, _, _, _, rfl, .inr (.inr (.inl ⟨_, _, rfl⟩))⟩
  · exact ⟨_, _, _, _, _, rfl, .inr (.inr (.inr ⟨_, rfl⟩))⟩
  · cases h
theorem exXD_op {C : Cx} {o : Oper} {k : St → Prop} {σ : St} (h : isC C.cut o = false) (hf : isF C.cut o = false) (hg : o.guard = none) : exXD C o k σ = exOp C o k σ := by
  obtain ⟨dst, op, ty, pos, af, g⟩ := o
  dsimp only at hg
  subst hg
  unfold exXD
  dsimp only
  split
  · rename_i f xs ts d
    have h3 : inC (3000000 + f) C.cut = false := hf
    have h2 : (inC (2000000 + f) C.cut && !inC (3000000 + f) C.cut) = false := h
    rw [h3, Bool.not_false, Bool.and_true] at h2
    rw [h2, h3]
    rfl
  · rfl
theorem exYD_G {C : Cx} {ops : List Oper} {o : Oper} {k : St → Prop} {σ : St} (h : isC C.cut o = false) (hf : isF C.cut o = false) : exYD C ops o k σ = exG C ops o k σ := by
  unfold exYD
  split
  · rename_i hg
    rw [exXD_op h hf hg]
    unfold exG
    rw [hg]
  · rfl
theorem xCallD_ex {C : Cx} {f d : Nat} {av : List V} {σ : St} {k : St → Prop} : xCallD C f d av σ k ↔ ∃ τ, xCallD C f d av σ (fun s => s = τ) ∧ k τ := by
  constructor
  · rintro (⟨bs, r, h1, h2, h3⟩ | ⟨bs, r, rb, ids, h1, h2, h3, h4⟩ | ⟨bs, B, r, B', ρ, ρ', h1, h2, h3, h4, h5, h6, h7⟩)
    · exact ⟨_, .inl ⟨bs, r, h1, h2, rfl⟩, h3⟩
    · exact ⟨_, .inr (.inl ⟨bs, r, rb, ids, h1, h2, h3, rfl⟩), h4⟩
    · exact ⟨_, .inr (.inr ⟨bs, B, r, B', ρ, ρ', h1, h2, h3, h4, h5, h6, rfl⟩), h7⟩
  · rintro ⟨τ, ⟨bs, r, h1, h2, rfl⟩ | ⟨bs, r, rb, ids, h1, h2, h3, rfl⟩ | ⟨bs, B, r, B', ρ, ρ', h1, h2, h3, h4, h5, h6, rfl⟩, hk⟩
    · exact .inl ⟨bs, r, h1, h2, hk⟩
    · exact .inr (.inl ⟨bs, r, rb, ids, h1, h2, h3, hk⟩)
    · exact .inr (.inr ⟨bs, B, r, B', ρ, ρ', h1, h2, h3, h4, h5, h6, hk⟩)
theorem xCallE_ex {C : Cx} {f d : Nat} {av : List V} {σ : St} {k : St → Prop} : xCallE C f d av σ k ↔ ∃ τ, xCallE C f d av σ (fun s => s = τ) ∧ k τ := by
  constructor
  · rintro (⟨bs, r, h1, h2, h3⟩ | ⟨bs, r, rb, ids, h1, h2, h3, h4⟩ | ⟨bs, B, r, B', ρ, ρ', h1, h2, h3, h4, h5, h6, h7⟩)
    · exact ⟨_, .inl ⟨bs, r, h1, h2, rfl⟩, h3⟩
    · exact ⟨_, .inr (.inl ⟨bs, r, rb, ids, h1, h2, h3, rfl⟩), h4⟩
    · exact ⟨_, .inr (.inr ⟨bs, B, r, B', ρ, ρ', h1, h2, h3, h4, h5, h6, rfl⟩), h7⟩
  · rintro ⟨τ, ⟨bs, r, h1, h2, rfl⟩ | ⟨bs, r, rb, ids, h1, h2, h3, rfl⟩ | ⟨bs, B, r, B', ρ, ρ', h1, h2, h3, h4, h5, h6, rfl⟩, hk⟩
    · exact .inl ⟨bs, r, h1, h2, hk⟩
    · exact .inr (.inl ⟨bs, r, rb, ids, h1, h2, h3, hk⟩)
    · exact .inr (.inr ⟨bs, B, r, B', ρ, ρ', h1, h2, h3, h4, h5, h6, hk⟩)
theorem exYD_ex {C : Cx} {ops : List Oper} {o : Oper} {k : St → Prop} {σ : St} : exYD C ops o k σ ↔ ∃ τ, exYD C ops o (fun s => s = τ) σ ∧ k τ := by
  cases hF : isF C.cut o with
  | true =>
    obtain ⟨f, xs, ts, d, ty, pos, af, rfl, hf⟩ := isF_shape hF
    have e : ∀ K, exYD C ops ⟨some d, .call { callee := .value (.func f), args := xs, argTypes := ts }, ty, pos, af, none⟩ K σ = xCallE C f d (xs.toList.map σ.rd) σ K := fun K => by
      show callB C (inC (2000000 + f) C.cut) (inC (3000000 + f) C.cut) f d _ σ K = _
      rw [hf]
      cases inC (2000000 + f) C.cut <;> rfl
    simp only [e]
    exact xCallE_ex
  | false =>
  cases h : isC C.cut o with
  | false =>
    simp only [exYD_G h hF]
    constructor
    · intro h
      obtain ⟨u, h1, h2⟩ := exG_T.1 h
      exact ⟨_, exG_T.2 ⟨u, h1, rfl⟩, h2⟩
    · rintro ⟨τ, h1, h2⟩
      obtain ⟨u, h3, rfl⟩ := exG_T.1 h1
      exact exG_T.2 ⟨u, h3, h2⟩
  | true =>
    obtain ⟨f, xs, ts, d, ty, pos, af, rfl, hf, hf3⟩ := isC_shape h
    have e : ∀ K, exYD C ops ⟨some d, .call { callee := .value (.func f), args := xs, argTypes := ts }, ty, pos, af, none⟩ K σ = xCallD C f d (xs.toList.map σ.rd) σ K := fun K => by
      show callB C (inC (2000000 + f) C.cut) (inC (3000000 + f) C.cut) f d _ σ K = _
      rw [hf, hf3]; rfl
    simp only [e]
    exact xCallD_ex
/-- What a call leaves as it is. -/
theorem callD_frame {C : Cx} {f d : Nat} {av : List V} {σ τ : St} (h : xCallD C f d av σ fun s => s = τ) : (∀ t, t ≠ d → τ.sl t = σ.sl t) ∧ (∀ i, τ.al i = false → σ.al i = false) ∧ ∀ i b, σ.al i = true → τ.bk i = some b → σ.bk i = some b := by
  rcases h with ⟨bs, r, h1, h2, rfl⟩ | ⟨bs, r, rb, ids, h1, h2, ⟨i1, i2, i3⟩, rfl⟩ | ⟨bs, B, r, B', ρ, ρ', h1, h2, h3, h4, h5, h6, rfl⟩
  · exact ⟨fun t h => by simp only [St.put]; rw [if_neg h], fun i h => h, fun i b _ h => h⟩
  · refine ⟨fun t h => by simp only [St.adds]; rw [if_neg h], fun i h => ?_, fun i b ha h => ?_⟩
    · simp only [St.adds, Bool.or_eq_false_iff] at h
      exact h.2
    · simp only [St.adds] at h
      cases e : wh i ids with
      | none => rw [e] at h; exact h
      | some k =>
        have := (i3 i (List.mem_of_getElem? (wh_get e))).1
        rw [ha] at this; cases this
  · refine ⟨fun t h => by simp only [St.giv]; rw [if_neg h], fun i h => ?_, fun i b ha h => ?_⟩
    · simp only [St.giv, Bool.or_eq_false_iff] at h
      exact h.2
    · simp only [St.giv] at h
      split at h
      · rename_i b' e
        obtain ⟨p, hp, hp1, _⟩ := lookup_map e
        have := (h5 p hp).2.1
        rw [hp1, ha] at this; cases this
      · cases hc : (B.map fun p => ρ p.1).contains i with
        | true => rw [hc] at h; cases h
        | false => rw [hc] at h; exact h
theorem put_put {σ : St} {d d' : Nat} {v v' : V} (h : d ≠ d') : (σ.put d' v').put d v = (σ.put d v).put d' v' := by
  simp only [St.put, St.mk.injEq, and_true]
  funext t
  by_cases e : t = d
  · subst e; rw [if_pos rfl, if_neg h, if_pos rfl]
  · rw [if_neg e]
    by_cases e2 : t = d'
    · rw [if_pos e2, if_pos e2]
    · rw [if_neg e2, if_neg e2, if_neg e]
theorem sl_swap {f : Nat → V} {d d' : Nat} {v v' : V} (h : d ≠ d') : (fun t => if t = d then v else if t = d' then v' else f t) = fun t => if t = d' then v' else if t = d then v else f t := by
  funext t
  by_cases e : t = d
  · subst e; rw [if_pos rfl, if_neg h, if_pos rfl]
  · rw [if_neg e]
    by_cases e2 : t = d'
    · rw [if_pos e2, if_pos e2]
    · rw [if_neg e2, if_neg e2, if_neg e]
theorem rd_put {σ : St} {d : Nat} {v : V} {x : Operand} (h : x ≠ .tmp d) : (σ.put d v).rd x = σ.rd x := rd_congr fun t e => by
  simp only [St.put]
  rw [if_neg (fun e2 => h (by rw [e, e2]))]
/-- A call behind a value that it doesn't read. -/
theorem callD_put {C : Cx} {f d d' : Nat} {av : List V} {σ τ : St} {v : V} (h : xCallD C f d av σ fun s => s = τ) (hd : d ≠ d') : xCallD C f d av (σ.put d' v) fun s => s = τ.put d' v := by
  rcases h with ⟨bs, r, h1, h2, rfl⟩ | ⟨bs, r, rb, ids, h1, h2, h3, rfl⟩ | ⟨bs, B, r, B', ρ, ρ', h1, h2, h3, h4, h5, h6, rfl⟩
  · exact .inl ⟨bs, r, h1, h2, put_put hd⟩
  · refine .inr (.inl ⟨bs, r, rb, ids, h1, h2, h3, ?_⟩)
    simp only [St.adds, St.put, St.mk.injEq, and_true]
    exact sl_swap hd
  · refine .inr (.inr ⟨bs, B, r, B', ρ, ρ', h1, h2, h3, h4, h5, h6, ?_⟩)
    simp only [St.giv, St.put, St.mk.injEq, and_true]
    exact sl_swap hd
/-- A call behind a new variable. -/
theorem callD_nw {C : Cx} {f d d' : Nat} {av : List V} {σ τ : St} {v : V} {b : Bk} (h : xCallD C f d av σ fun s => s = τ) (hd : d ≠ d') (ha : τ.al d' = false) (hm : ∀ i, menL av i = true → σ.al i = true) (hw : ∀ i b, σ.bk i = some b → σ.al i = true) : xCallD C f d av (σ.nw d' v none b) fun s => s = τ.nw d' v none b := by
  have ha0 := (callD_frame h).2.1 d' ha
  have hne : ∀ i, σ.al i = true → i ≠ d' := fun i hi e => by rw [e, ha0] at hi; cases hi
  have hbk : ∀ i, i ≠ d' → (σ.nw d' v none b).bk i = σ.bk i := fun i hi => by
    simp only [St.nw]
    rw [if_neg hi, if_neg (by simp)]
  have hal : ∀ i, i ≠ d' → (σ.nw d' v none b).al i = σ.al i := fun i hi => by
    simp only [St.nw]
    rw [beq_eq_false_iff_ne.2 hi]; rfl
  have hvw : vwL (σ.nw d' v none b).bk av = vwL σ.bk av := vwL_congr av fun i hi => hbk i (hne i (hm i hi))
  rcases h with ⟨bs, r, h1, h2, rfl⟩ | ⟨bs, r, rb, ids, h1, h2, ⟨i1, i2, i3⟩, rfl⟩ | ⟨bs, B, r, B', ρ, ρ', h1, h2, h3, h4, h5, h6, rfl⟩
  · refine .inl ⟨bs, r, by rw [hvw]; exact h1, h2, ?_⟩
    simp only [St.put, St.nw, St.mk.injEq, and_true]
    exact sl_swap hd
  · have hid : ∀ i ∈ ids, i ≠ d' := fun i hi e => by
      subst e
      simp only [St.adds, Bool.or_eq_false_iff] at ha
      obtain ⟨k, hk⟩ := List.getElem?_of_mem hi
      rw [get_wh i2 hk] at ha
      cases ha.1
    refine .inr (.inl ⟨bs, r, rb, ids, by rw [hvw]; exact h1, h2, ⟨i1, i2, fun i hi => by rw [hal i (hid i hi)]; exact i3 i hi⟩, ?_⟩)
    have hwn : wh d' ids = none := by
      cases e : wh d' ids with
      | none => rfl
      | some k => exact absurd rfl (hid d' (List.mem_of_getElem? (wh_get e)))
    simp only [St.adds, St.nw, St.mk.injEq]
    refine ⟨sl_swap hd, ?_, ?_⟩
    · funext i
      by_cases e : i = d'
      · subst e
        rw [hwn]
      · rw [if_neg e, if_neg e]
        simp
    · funext i
      rw [Bool.or_left_comm]
  · have hid : ∀ p ∈ B', ρ' p.1 ≠ d' := fun p hp e => by
      simp only [St.giv, Bool.or_eq_false_iff] at ha
      have := ha.1
      rw [← e, List.contains_iff_mem.2 (List.mem_map.2 ⟨p, hp, rfl⟩)] at this
      cases this
    have hib : ∀ p ∈ B, ρ p.1 ≠ d' := fun p hp => hne _ (hw _ _ (h2 p hp))
    refine .inr (.inr ⟨bs, B, r, B', ρ, ρ', h1, fun p hp => by rw [hbk _ (hib p hp)]; exact h2 p hp, h3, h4, fun p hp => ⟨(h5 p hp).1, by rw [hal _ (hid p hp)]; exact (h5 p hp).2.1, (h5 p hp).2.2⟩, h6, ?_⟩)
    have l1 : (B'.map fun p => (ρ' p.1, rnB ρ' p.2)).lookup d' = none := by
      cases e : (B'.map fun p => (ρ' p.1, rnB ρ' p.2)).lookup d' with
      | none => rfl
      | some b =>
        obtain ⟨p, hp, hp1, _⟩ := lookup_map e
        exact absurd hp1 (hid p hp)
    have l2 : (B.map fun p => ρ p.1).contains d' = false := by
      rw [← Bool.not_eq_true, List.contains_iff_mem]
      intro e
      obtain ⟨p, hp, e⟩ := List.mem_map.1 e
      exact hib p hp e
    simp only [St.giv, St.nw, St.mk.injEq]
    refine ⟨sl_swap hd, ?_, ?_⟩
    · funext i
      by_cases e : i = d'
      · subst e
        rw [l1, l2]
        simp
      · rw [if_neg e, if_neg e, if_neg (by simp), if_neg (by simp)]
    · funext i
      rw [Bool.or_left_comm]
theorem vLoad_back {P : Program} {T : Nat} {bk bk' : Nat → Option Bk} {x : V} {K : V → Prop} (h : ∀ i b, men x i = true → bk' i = some b → bk i = some b) (hl : vLoad P T bk' x K) : vLoad P T bk x K := by
  unfold vLoad at hl ⊢
  split at hl
  · exact hl
  · rename_i q off
    split at hl
    · rename_i T' l e
      rw [h q _ (by simp [men]) e]
      exact hl
    · exact hl.elim
  · rename_i q s k off
    split at hl
    · rename_i e
      rw [h q _ (by simp [men]) e]
      exact hl
    · exact hl.elim
  · exact hl.elim
theorem vLoadG_back {P : Program} {L : World → Prop} {T : Nat} {bk bk' : Nat → Option Bk} {x : V} {K : V → Prop} (h : ∀ i b, men x i = true → bk' i = some b → bk i = some b) (hl : vLoadG P L T bk' x K) : vLoadG P L T bk x K := by
  unfold vLoadG at hl ⊢
  split at hl
  · exact hl
  · exact vLoad_back h hl
section
variable {C : Cx} {ar : Array Oper} {ops : List Oper} {w0 : Bs} {S : Nat → Prop} {m : Nat} {σ τ τ2 : St} {k : St → Prop} {y o : Oper} {l2 : List Oper}
/-- What comes behind a call in the text may come ahead of it. -/
theorem commC (hR : ∃ a W, Rel w0 S m σ a W) (hy : isC C.cut y = true) (ho : soft o = true) (h1 : exYD C ops y (fun s => s = τ) σ) (h2 : exYD C ops o (fun s => s = τ2) τ) (hap : y.apart ar o = true) :
    ∃ σ', exYD C ops o (fun s => s = σ') σ ∧ exYD C ops y (fun s => s = τ2) σ' := by
  obtain ⟨a, W, G, F, hG⟩ := hR
  obtain ⟨f, xs, ts, d, ty, pos, af, rfl, hf, hf3⟩ := isC_shape hy
  have eX : ∀ K σ, exYD C ops ⟨some d, .call { callee := .value (.func f), args := xs, argTypes := ts }, ty, pos, af, none⟩ K σ = xCallD C f d (xs.toList.map σ.rd) σ K := fun K σ => by
    show callB C (inC (2000000 + f) C.cut) (inC (3000000 + f) C.cut) f d _ σ K = _
    rw [hf, hf3]; rfl
  obtain ⟨op, d', ty', pos', af', rfl, hop⟩ := soft_shape ho
  obtain ⟨a1, a2, a3⟩ := Oper.apart_spec hap
  have hd : d ≠ d' := fun e => a2 d rfl (by rw [e])
  rw [eX] at h1
  obtain ⟨f1, f2, f3⟩ := callD_frame h1
  have hrd : ∀ x ∈ op.operands, τ.rd x = σ.rd x := fun x hx => rd_congr fun t e => f1 t fun e2 => a1 d rfl (by
    unfold Oper.looksAt
    exact List.mem_append_left _ (List.mem_filterMap.2 ⟨x, by simpa using hx, by rw [e, e2]⟩))
  have hxs : ∀ x ∈ xs.toList, x ≠ .tmp d' := fun x hx e => a3 d' rfl (by
    unfold Oper.looksAt
    exact List.mem_append_left _ (List.mem_filterMap.2 ⟨x, by show x ∈ (#[Operand.func f] ++ xs).toList; rw [Array.toList_append]; exact List.mem_append_right _ hx, by rw [e]⟩))
  have hmp : ∀ v, xs.toList.map (σ.put d' v).rd = xs.toList.map σ.rd := fun v => map_congr_rd fun x hx => rd_put (hxs x hx)
  have hput : ∀ v, τ.put d' v = τ2 → exYD C ops ⟨some d, .call { callee := .value (.func f), args := xs, argTypes := ts }, ty, pos, af, none⟩ (fun s => s = τ2) (σ.put d' v) := fun v e => by
    subst e
    rw [eX, hmp]
    exact callD_put h1 hd
  rcases hop with ⟨x, rfl⟩ | ⟨T, x, i, rfl⟩ | ⟨T, x, rfl⟩ | ⟨T, rfl⟩
  · have h2 : τ.put d' (τ.rd x) = τ2 := h2
    rw [hrd x (by simp [Op.operands])] at h2
    exact ⟨σ.put d' (σ.rd x), rfl, hput _ h2⟩
  · have h2 : vFldA C.P T (τ.rd x) i (pk τ d' fun s => s = τ2) := h2
    rw [hrd x (by simp [Op.operands])] at h2
    obtain ⟨v, h3, h4⟩ := vFldA_ex.1 h2
    exact ⟨σ.put d' v, vFldA_ex.2 ⟨v, h3, rfl⟩, hput v h4⟩
  · have h2 : vLoadG C.P C.L T τ.bk (τ.rd x) (pk τ d' fun s => s = τ2) := h2
    rw [hrd x (by simp [Op.operands])] at h2
    obtain ⟨v, h3, h4⟩ := vLoadG_ex.1 h2
    exact ⟨σ.put d' v, vLoadG_ex.2 ⟨v, vLoadG_back (fun i b hi hb => f3 i b (hG.rd_men x i hi) hb) h3, rfl⟩, hput v h4⟩
  · obtain ⟨l, e1, e2, e3⟩ : xAlloc C.P T d' τ fun s => s = τ2 := h2
    refine ⟨σ.nw d' (.p d' 0) none (.cells T l), ⟨l, e1, f2 d' e2, rfl⟩, ?_⟩
    subst e3
    rw [eX]
    have hmp2 : xs.toList.map (σ.nw d' (.p d' 0) none (.cells T l)).rd = xs.toList.map σ.rd := map_congr_rd fun x hx => rd_congr fun t e => by
      simp only [St.nw]
      rw [if_neg (fun e2 => hxs x hx (by rw [e, e2]))]
    rw [hmp2]
    refine callD_nw h1 hd e2 (fun i hi => ?_) fun i b hb => (hG.wfb i b hb).1
    obtain ⟨v, hv, hm⟩ : ∃ v ∈ xs.toList.map σ.rd, men v i = true := by
      generalize xs.toList.map σ.rd = L at hi
      induction L with
      | nil => simp [menL] at hi
      | cons u r ih =>
        simp only [menL, Bool.or_eq_true] at hi
        rcases hi with hi | hi
        · exact ⟨u, by simp, hi⟩
        · obtain ⟨v, h1, h2⟩ := ih hi
          exact ⟨v, by simp [h1], h2⟩
    obtain ⟨x, hx, rfl⟩ := List.mem_map.1 hv
    exact hG.rd_men x i hm
theorem exXD_ok {G : Gm} {F : Nat → Prop} {a : Act} {W : World} (hR : RelG w0 S m G F σ a W) (hm : ∀ d, o.dst = some d → d < m) (hLt : C.L w0.t) (hL : C.L W) (h : exXD C o k σ) : Eff C.P w0 S m o k a W := by
  unfold exXD at h
  split at h
  · rename_i e1 e2
    unfold callB at h
    split at h
    · rcases h with h | h | h
      · exact call_ok e1 e2 (hm _ e2) hR hL h
      · exact callO_ok e1 e2 (hm _ e2) hR hL h
      · exact callP_ok e1 e2 (hm _ e2) hR hLt h
    · exact call_ok e1 e2 (hm _ e2) hR hL h
    rcases h with h | h | h
    · exact call_ok e1 e2 (hm _ e2) hR hL h
    · exact callO_ok e1 e2 (hm _ e2) hR hL h
    · exact callP_ok e1 e2 (hm _ e2) hR hLt (xCallQ_P h)
  · exact exOp_ok hR hm hL h
theorem exYD_ok {G : Gm} {F : Nat → Prop} {a : Act} {W : World} {K : Act → World → Prop} {Q : Exit → Act → World → Prop} (hR : RelG w0 S m G F σ a W) (hm : ∀ d, o.dst = some d → d < m) (hLt : C.L w0.t) (hL : C.L W) (h : exYD C ar.toList o k σ) (hK : ∀ σ' a' W', k σ' → Rel w0 S m σ' a' W' → K a' W') :
    if Region.wanted o (yielded ar a.tmps) then o.wp C.P a W K Q ∨ (o.asks C.P a W ∧ LetsOut Q) else K (a.put o.dst undef) W := by
  unfold exYD at h
  split at h
  · rename_i e
    rw [if_pos (by simp [Region.wanted, e])]
    exact .inl (exXD_ok hR hm hLt hL h K Q hK)
  · exact exG_ok hR hm hL h hK
theorem real_stepD (hS : Stab C.L) (hL : C.L w0.t) (har : ops = ar.toList) (hm : ∀ d, o.dst = some d → d < m) (hR : ∃ a W, Rel w0 S m σ a W) (h : exYD C ops o (fun s => s = τ) σ) : ∃ a W, Rel w0 S m τ a W := by
  obtain ⟨a, W, G, F, hG⟩ := hR
  subst har
  have := exYD_ok (ar := ar) (Q := fun _ _ _ => False) (K := fun a W => Rel w0 S m τ a W) hG hm hL (hS _ _ hL hG.below.top) h (fun σ' a' W' e hR' => by subst e; exact hR')
  split at this
  · rcases this with h | ⟨_, _, _, h⟩
    · exact wp_real h
    · exact h.elim
  · exact ⟨_, _, this⟩
theorem commD (hS : Stab C.L) (hL : C.L w0.t) (har : ops = ar.toList) (hR : ∃ a W, Rel w0 S m σ a W) (h1 : exYD C ops y (fun s => s = τ) σ) (h2 : exYD C ops o (fun s => s = τ2) τ) (hap : y.apart ar o = true) (hc : compat y o = true) (hp : pairOk C.cut y o = true) :
    ∃ σ', exYD C ops o (fun s => s = σ') σ ∧ exYD C ops y (fun s => s = τ2) σ' := by
  unfold pairOk at hp
  simp only [Bool.and_eq_true, Bool.not_eq_true'] at hp
  obtain ⟨⟨hf1, hf2⟩, hp⟩ := hp
  cases hy : isC C.cut y with
  | true => rw [hy] at hp; exact commC hR hy hp h1 h2 hap
  | false =>
    rw [hy] at hp
    have ho : isC C.cut o = false := by simpa using hp
    rw [exYD_G hy hf1] at h1
    rw [exYD_G ho hf2] at h2
    obtain ⟨u, g1, rfl⟩ := exG_T.1 h1
    obtain ⟨u', g2, rfl⟩ := exG_T.1 h2
    obtain ⟨c1, c2, c3⟩ := comm hS hL har hR g1 g2 hap hc
    refine ⟨_, by rw [exYD_G ho hf2]; exact exG_T.2 ⟨u', c1, rfl⟩, ?_⟩
    rw [exYD_G hy hf1]
    exact exG_T.2 ⟨u, c2, c3.symm⟩
theorem frontD (hS : Stab C.L) (hL : C.L w0.t) (har : ops = ar.toList) : ∀ (l1 : List Oper) (σ : St), (∀ y ∈ l1, (y.apart ar o = true ∧ compat y o = true ∧ ∀ d, y.dst = some d → d < m) ∧ pairOk C.cut y o = true) → (∃ a W, Rel w0 S m σ a W) → wpD C ops (l1 ++ o :: l2) k σ → exYD C ops o (wpD C ops (l1 ++ l2) k) σ
  | [], σ, _, _, h => h
  | y :: l1, σ, hy, hR, h => by
    obtain ⟨τ, h1, h2⟩ := exYD_ex.1 (show exYD C ops y (wpD C ops (l1 ++ o :: l2) k) σ from h)
    obtain ⟨⟨p1, p2, p3⟩, p4⟩ := hy y (by simp)
    have h3 := frontD hS hL har l1 _ (fun z hz => hy z (by simp [hz])) (real_stepD hS hL har p3 hR h1) h2
    obtain ⟨τ2, h4, h5⟩ := exYD_ex.1 h3
    obtain ⟨σ', c1, c2⟩ := commD hS hL har hR h1 h4 p1 p2 p4
    exact exYD_ex.2 ⟨σ', c1, (exYD_ex.2 ⟨τ2, c2, h5⟩ : exYD C ops y (wpD C ops (l1 ++ l2) k) σ')⟩
theorem drawOk2_spec {cu : List Nat} (h : drawOk2 cu ar = true) : drawOk ar = true ∧ ∀ {i j : Nat} {o y : Oper}, ar[i]? = some o → j < i → ar[j]? = some y → rch ar (i + 1) j i = true ∨ pairOk cu y o = true := by
  unfold drawOk2 at h
  simp only [Bool.and_eq_true] at h
  refine ⟨h.1, fun {i j o y} hi hj hy => ?_⟩
  have h1 := List.all_eq_true.1 h.2 (o, i) (List.mem_iff_getElem?.2 ⟨i, by rw [List.getElem?_zipIdx, Array.getElem?_toList, hi]; simp⟩)
  have h2 := List.all_eq_true.1 h1 (y, j) (List.mem_iff_getElem?.2 ⟨j, by rw [List.getElem?_zipIdx, Array.getElem?_toList, hy]; simp⟩)
  simp only [Bool.or_eq_true, Bool.not_eq_true', decide_eq_false_iff_not] at h2
  rcases h2 with (h2 | h2) | h2
  · exact absurd hj h2
  · exact .inl h2
  · exact .inr h2
theorem any_okD (hS : Stab C.L) (hL : C.L w0.t) (hd2 : drawOk2 C.cut ar = true) (hm : ∀ o ∈ ar.toList, ∀ d, o.dst = some d → d < m) {Q : Exit → Act → World → Prop} (hK : ∀ σ' a' W', k σ' → Rel w0 S m σ' a' W' → Q .normal a' W') :
    ∀ (fuel : Nat) (listed : Array Bool) (σ : St) (a : Act) (W : World), Closed ar listed → listed.size = ar.size → (remL ar.toList 0 listed).length ≤ fuel → Rel w0 S m σ a W → wpD C ar.toList (remL ar.toList 0 listed) k σ → wpAny C.P .any ar Q fuel listed a W := by
  obtain ⟨hd, hpo⟩ := drawOk2_spec hd2
  have hready : ∀ (listed : Array Bool) (i : Nat), Closed ar listed → i ∈ Region.ready .any ar listed → (∀ o, ar[i]? = some o → ∀ e ∈ o.after, Region.binds .any e = true → listed.getD e.on false = true) ∧ ∃ o l1 l2, ar[i]? = some o ∧ remL ar.toList 0 listed = l1 ++ o :: l2 ∧ remL ar.toList 0 (listed.setIfInBounds i true) = l1 ++ l2 ∧ ∀ y ∈ l1, (y.apart ar o = true ∧ compat y o = true ∧ ∀ d, y.dst = some d → d < m) ∧ pairOk C.cut y o = true := by
    intro listed i hcl hi
    obtain ⟨h1, o, h2, h3⟩ := mem_ready.1 hi
    have hpre : ∀ o, ar[i]? = some o → ∀ e ∈ o.after, Region.binds .any e = true → listed.getD e.on false = true := fun o' ho' => by
      rw [h2] at ho'
      obtain rfl := Option.some.inj ho'
      exact h3
    refine ⟨hpre, ?_⟩
    have h1 : listed.getD i true = false := by simpa using h1
    obtain ⟨l1, l2, r1, r2, r3⟩ := remL_at ar.toList 0 listed i o (by rw [Array.getElem?_toList]; exact h2) (by rw [Nat.zero_add]; exact h1)
    rw [Nat.zero_add] at r2
    refine ⟨o, l1, l2, h2, r1, r2, fun y hy => ?_⟩
    obtain ⟨j, hj, e1, e2⟩ := r3 y hy
    rw [Nat.zero_add] at e2
    have e1' : ar[j]? = some y := by rw [← Array.getElem?_toList]; exact e1
    have hno : rch ar (i + 1) j i = true → False := fun hr => by
      have := rch_listed hcl _ _ _ hpre hr
      rw [Array.getD_eq_getD_getElem?] at this e2
      cases hx : listed[j]? with
      | none => rw [hx] at this; cases this
      | some b => rw [hx] at this e2; simp only [Option.getD_some] at this e2; rw [this] at e2; cases e2
    refine ⟨?_, (hpo h2 hj e1').resolve_left hno⟩
    rcases (drawOk_spec hd h2).2 j y hj e1' with hr | ⟨p1, p2⟩
    · exact (hno hr).elim
    · exact ⟨p1, p2, hm y (List.mem_of_getElem? e1)⟩
  have hempty : ∀ (listed : Array Bool), listed.size = ar.size → Region.ready .any ar listed = [] → remL ar.toList 0 listed = [] := by
    intro listed hsz hr
    refine remL_nil _ _ _ fun i hi => ?_
    rw [Nat.zero_add]
    cases hu : listed.getD i true with
    | true => rfl
    | false =>
      obtain ⟨i0, h1, h2, h3⟩ := least (p := fun i => listed.getD i true = false) ar.toList.length ⟨i, hi, hu⟩
      have hi0 : i0 < ar.size := by simpa using h1
      have : i0 ∈ Region.ready .any ar listed := mem_ready.2 ⟨by simpa using h2, _, Array.getElem?_eq_getElem hi0, fun e he hb => by
        have hlt := (drawOk_spec hd (Array.getElem?_eq_getElem hi0)).1 e he hb
        have := h3 e.on hlt
        rw [Array.getD_eq_getD_getElem?] at this ⊢
        have hlt2 : e.on < listed.size := by omega
        rw [Array.getElem?_eq_getElem hlt2] at this ⊢
        simpa using this⟩
      rw [hr] at this
      cases this
  intro fuel
  induction fuel with
  | zero =>
    intro listed σ a W hcl hsz hlen hR h
    have hnil : remL ar.toList 0 listed = [] := List.eq_nil_of_length_eq_zero (by omega)
    refine ⟨?_, ?_⟩
    · cases hr : Region.ready .any ar listed with
      | nil => rfl
      | cons i rs =>
        obtain ⟨_, o, l1, l2, _, h2, _⟩ := hready listed i hcl (by rw [hr]; simp)
        rw [hnil] at h2
        simp at h2
    · rw [hnil] at h
      exact hK _ _ _ h hR
  | succ fuel ih =>
    intro listed σ a W hcl hsz hlen hR h
    refine ⟨fun hr => ?_, fun i hi => ?_⟩
    · rw [hempty listed hsz hr] at h
      exact hK _ _ _ h hR
    · obtain ⟨hpre, o, l1, l2, h1, h2, h3, h4⟩ := hready listed i hcl hi
      rw [h2] at h
      have h5 := frontD (C := C) (ar := ar) hS hL rfl l1 σ h4 ⟨a, W, hR⟩ h
      unfold wpOp
      rw [h1]
      dsimp only
      obtain ⟨G, F, hG⟩ := hR
      refine exYD_ok hG (hm o (by rw [← Array.getElem?_toList] at h1; exact List.mem_of_getElem? h1)) hL (hS _ _ hL hG.below.top) h5 fun σ' a' W' hk hR' => ih _ σ' a' W' (closed_set hcl hpre) (by simp [hsz]) (by rw [h3]; rw [h2] at hlen; simp at hlen ⊢; omega) hR' (by rw [h3]; exact hk)
/-- A region whose order is drawn, with such calls. -/
theorem region_okD (hS : Stab C.L) (hL : C.L w0.t) (hx : C.P.follows .mixedOrders = true) (hd : drawOk2 C.cut ar = true) (hm : ∀ o ∈ ar.toList, ∀ d, o.dst = some d → d < m) {Q : Exit → Act → World → Prop} {a : Act} {W : World} {id : Nat} (hR : Rel w0 S m σ a W) (h : wpD C ar.toList ar.toList k σ)
    (hK : ∀ σ' a' W', k σ' → Rel w0 S m σ' a' W' → Q .normal a' W') : (Code.region id ar true).wp C.P Q a W := by
  have hfull : ∀ (l : List Oper) (n : Nat), n + l.length ≤ ar.size → remL l n (Array.replicate ar.size false) = l := by
    intro l
    induction l with
    | nil => intro n _; rfl
    | cons x l ih =>
      intro n hn
      simp only [List.length_cons] at hn
      simp only [remL]
      rw [if_neg (by rw [Array.getD_eq_getD_getElem?, Array.getElem?_replicate, if_pos (by omega)]; simp), ih (n + 1) (by omega)]
  have hrem := hfull ar.toList 0 (by simp)
  obtain ⟨G, F, hG⟩ := hR
  have hG' : RelG w0 S m G F σ a { W with drawn := W.drawn + 1 } := by
    refine ⟨⟨hG.below.os, hG.below.tape, hG.below.output, hG.below.size, hG.below.block⟩, hG.size, fun t => (hG.slot t).keep fun _ _ => rfl, fun i b hb => (hG.blk i b hb).keep (fun _ _ => rfl) fun _ _ => rfl, hG.own, hG.apart, hG.fin, hG.defers, hG.wf, hG.wfb, hG.fix, hG.mlt⟩
  exact wp_region_any hx (any_okD hS hL hd hm hK ar.size _ σ a _ (fun i o _ h => by rw [Array.getD_eq_getD_getElem?, Array.getElem?_replicate] at h; split at h <;> cases h) (by simp) (by rw [hrem]; simp) ⟨G, F, hG'⟩ (by rw [hrem]; exact h))
end
/-- A drawn region: as it is by itself, or with such calls. -/
def drR (C : Cx) : Bool → Array Oper → (St → Prop) → St → Prop
  | false, ar, k, σ => wpR C ar.toList ar.toList k σ
  | true, ar, k, σ => drawOk2 C.cut ar = true ∧ wpD C ar.toList ar.toList k σ
end Go.Proofs.YtikmkgoeepgbkaaGreatDoor.Ev
namespace Go.Proofs.YtikmkgoeepgbkaaGreatDoor.Ev
open Go.RowKit
open Go.Proofs.YtikmkgoeepgbkaaGreatDoor.Mem
set_option linter.unusedVariables false
set_option linter.unusedSimpArgs false

/-! ### Flow -/
structure Ct : Type 1 where
  n : St → Prop
  x : Nat → St → Prop
  r : St → Prop
def cnd (v : V) (A B : St → Prop) (σ : St) : Prop := match v with
  | .b x => (x = true → A σ) ∧ (x = false → B σ)
  | _ => False
def exU (i : Nat) (f : St → Prop) (g : Nat → St → Prop) (k : Nat) (σ : St) : Prop := if k = i then f σ else g k σ
def lp (B : Ct → St → Prop) (Q : Ct) (σ : St) : Prop :=
  ∃ (I N : Nat → St → Prop) (n : Nat), Wk (I n) σ ∧ (∀ (n : Nat) (σ : St), N n σ → Wk (fun σ' => ∃ k, k < n ∧ I k σ') σ) ∧ ∀ (n : Nat) (σ : St), I n σ → B ⟨N n, Q.x, Q.r⟩ σ
/-- Does that begin with one of these regions? -/
def cutA (cu : List Nat) : Code → Bool
  | .region i _ _ => inC i cu
  | .seq x _ => cutA cu x
  | _ => false
/-- One behind the other; at a cut what is said of the state between is said by hand. -/
def sq (b : Bool) (A : Ct → St → Prop) (B : St → Prop) (Q : Ct) (σ : St) : Prop :=
  bif b then ∃ J : St → Prop, A ⟨Wk J, Q.x, Q.r⟩ σ ∧ ∀ σ', J σ' → B σ' else A ⟨B, Q.x, Q.r⟩ σ
def wpC (C : Cx) : Code → Ct → St → Prop
  | .skip, Q, σ => Q.n σ
  | .region i ops true, Q, σ => drR C (inC (1000000 + i) C.cut) ops Q.n σ
  | .region _ ops false, Q, σ => wpX C ops.toList ops.toList Q.n σ
  | .seq x y, Q, σ => sq (cutA C.cut y) (wpC C x) (wpC C y Q) Q σ
  | .cond c x y, Q, σ => cnd (σ.rd c) (wpC C x Q) (wpC C y Q) σ
  | .block i x, Q, σ => wpC C x ⟨Q.n, exU i Q.n Q.x, Q.r⟩ σ
  | .loop x, Q, σ => lp (wpC C x) Q σ
  | .exit i, Q, σ => Q.x i σ
  | .ret, Q, σ => Q.r σ
  | .scope x, Q, σ => wpC C x Q σ
  | _, _, _ => False
def chk (m : Nat) : Code → Bool
  | .region _ ops dr => (ops.toList.all fun o => match o.dst with
    | some d => decide (d < m)
    | none => true) && (!dr || drawOk ops)
  | .seq x y => chk m x && chk m y
  | .cond _ x y => chk m x && chk m y
  | .block _ x => chk m x
  | .loop x => chk m x
  | .scope x => chk m x
  | _ => true
def chkM (m : Nat) (c : Code) : Bool := decide (m ≤ 1000000000) && chk m c
def cn (w0 : Bs) (S : Nat → Prop) (m : Nat) (Q : Ct) : Exit → Act → World → Prop
  | .normal, a, W => ∃ σ, Rel w0 S m σ a W ∧ Q.n σ
  | .exit i, a, W => ∃ σ, Rel w0 S m σ a W ∧ Q.x i σ
  | .ret, a, W => ∃ σ, Rel w0 S m σ a W ∧ Q.r σ
  | _, _, _ => False
theorem wpC_ok {C : Cx} {w0 : Bs} {S : Nat → Prop} {m : Nat} (hx : C.P.follows .mixedOrders = true) (hS : Stab C.L) (hL : C.L w0.t) : ∀ (c : Code) (Q : Ct) (σ : St) (a : Act) (W : World), chk m c = true → wpC C c Q σ → Rel w0 S m σ a W → c.wp C.P (cn w0 S m Q) a W
  | .skip, Q, σ, a, W, _, h, hR => wp_skip ⟨σ, hR, h⟩
  | .region i ops dr, Q, σ, a, W, hc, h, hR => by
    simp only [chk, Bool.and_eq_true] at hc
    have hm : ∀ o ∈ ops.toList, ∀ d, o.dst = some d → d < m := fun o ho d hd => by
      have := List.all_eq_true.1 hc.1 o ho
      rw [hd] at this
      simpa using this
    cases dr with
    | false => exact wp_region_list (wpX_ok hS hL ops.toList σ a W hm hR h fun σ' a' W' hk hR' => ⟨σ', hR', hk⟩)
    | true =>
      simp only [wpC] at h
      cases hi : inC (1000000 + i) C.cut with
      | false => rw [hi] at h; exact region_ok hS hL hx (by simpa using hc.2) hm hR h fun σ' a' W' hk hR' => ⟨σ', hR', hk⟩
      | true => rw [hi] at h; exact region_okD hS hL hx h.1 hm hR h.2 fun σ' a' W' hk hR' => ⟨σ', hR', hk⟩
  | .seq x y, Q, σ, a, W, hc, h, hR => by
    simp only [chk, Bool.and_eq_true] at hc
    simp only [wpC, sq] at h
    cases hb : cutA C.cut y with
    | false =>
      rw [hb] at h
      refine wp_seq (Code.wp_mono (fun e a' W' hq => ?_) (wpC_ok hx hS hL x _ σ a W hc.1 h hR))
      cases e with
      | normal => obtain ⟨σ', hR', hq⟩ := hq; exact wpC_ok hx hS hL y Q σ' a' W' hc.2 hq hR'
      | _ => exact hq
    | true =>
      rw [hb] at h
      obtain ⟨J, h, hJ⟩ := h
      refine wp_seq (Code.wp_mono (fun e a' W' hq => ?_) (wpC_ok hx hS hL x _ σ a W hc.1 h hR))
      cases e with
      | normal =>
        obtain ⟨σ', hR', hq⟩ := hq
        obtain ⟨σ2, hR2, hq2⟩ := hq w0 S m a' W' hR'
        exact wpC_ok hx hS hL y Q σ2 a' W' hc.2 (hJ _ hq2) hR2
      | _ => exact hq
  | .cond c x y, Q, σ, a, W, hc, h, hR => by
    simp only [chk, Bool.and_eq_true] at hc
    simp only [wpC] at h
    unfold cnd at h
    split at h
    · rename_i t ht
      obtain ⟨G, F, hG⟩ := hR
      have h1 := hG.rd c
      rw [ht] at h1
      exact wp_cond_split h1.b_inv (fun e => wpC_ok hx hS hL x Q σ a W hc.1 (h.1 e) ⟨G, F, hG⟩) (fun e => wpC_ok hx hS hL y Q σ a W hc.2 (h.2 e) ⟨G, F, hG⟩)
    · exact h.elim
  | .block i x, Q, σ, a, W, hc, h, hR => by
    refine wp_block (Code.wp_mono (fun e a' W' hq => ?_) (wpC_ok hx hS hL x _ σ a W hc h hR))
    cases e with
    | exit k =>
      obtain ⟨σ', hR', hq⟩ := hq
      show (if k = i then _ else _)
      simp only [exU] at hq
      split at hq
      · rename_i e; rw [if_pos e]; exact ⟨σ', hR', hq⟩
      · rename_i e; rw [if_neg e]; exact ⟨σ', hR', hq⟩
    | _ => exact hq
  | .loop x, Q, σ, a, W, hc, h, hR => by
    obtain ⟨I, N, n, h0, h2, h1⟩ := h
    obtain ⟨σ0, hR0, hI⟩ := h0 w0 S m a W hR
    refine Sx.wp_loop_n (fun n a W => ∃ σ, Rel w0 S m σ a W ∧ I n σ) ⟨σ0, hR0, hI⟩ fun n a W hI R hR' => ?_
    obtain ⟨σ, hRσ, hI⟩ := hI
    refine Code.wp_mono (fun e a' W' hq => ?_) (wpC_ok hx hS hL x _ σ a W hc (h1 n σ hI) hRσ)
    cases e with
    | normal =>
      obtain ⟨σ', hRσ', hq⟩ := hq
      obtain ⟨σ2, hR2, k, hk, hI2⟩ := h2 n σ' hq w0 S m a' W' hRσ'
      exact hR' k a' W' ⟨σ2, hR2, hI2⟩ hk
    | _ => exact hq
  | .exit i, Q, σ, a, W, _, h, hR => wp_exit ⟨σ, hR, h⟩
  | .ret, Q, σ, a, W, _, h, hR => wp_ret ⟨σ, hR, h⟩
  | .scope x, Q, σ, a, W, hc, h, hR => by
    refine wp_scope_straight (Code.wp_mono (fun e a' W' hq => ?_) (wpC_ok hx hS hL x Q σ a W hc h hR))
    cases e <;> first | exact hq | exact hq.elim

/-! ### Functions -/
def ini (l : List V) : St := { sl := fun t => l.getD t .j, bk := fun _ => none, al := fun _ => false }
def pack : List V → V
  | [v] => v
  | l => .tp l
/-- What the results' variables hold. -/
def vRes (P : Program) (bk : Nat → Option Bk) (sl : Nat → V) : List ResultVar → (List V → Prop) → Prop
  | [], K => K []
  | .tmp t :: rs, K => vRes P bk sl rs fun l => K (sl t :: l)
  | .cell t T :: rs, K => vLoad P T bk (sl t) fun v => vRes P bk sl rs fun l => K (v :: l)
def Out (C : Cx) (rs : List ResultVar) (l : List V) (σ : St) : Prop := vRes C.P σ.bk σ.sl rs fun vs => leL (vwL σ.bk vs) l
def resv (tmps : Array Value) : ResultVar → Sem Value
  | .tmp t => pure (tmps.getD t undef)
  | .cell a t => do loadVar t (← asAddr (tmps.getD a undef))
inductive All2 {α β : Type _} (R : α → β → Prop) : List α → List β → Prop
  | nil : All2 R [] []
  | cons {a b l l'} (h : R a b) (t : All2 R l l') : All2 R (a :: l) (b :: l')
theorem All2.length_eq {α β : Type _} {R : α → β → Prop} {l : List α} {l' : List β} (h : All2 R l l') : l.length = l'.length := by
  induction h with
  | nil => rfl
  | cons _ _ ih => simp [ih]
theorem run_res {P : Program} {fn : Func} {tmps : Array Value} {W : World} : ∀ {rs : List ResultVar} {vs : List Value} (h : fn.results = rs.toArray) (hl : rs.length ≤ 4) (hv : All2 (fun r v => (resv tmps r).run P W = .ok v W) rs vs),
    (results fn tmps).run P W = .ok (match vs with | [v] => v | l => .tuple l.toArray) W := by
  intro rs vs h hl hv
  have e : results fn tmps = (do let vs ← rs.toArray.mapM (resv tmps); pure (if h : vs.size = 1 then vs[0] else .tuple vs)) := by
    unfold results
    rw [h]
    rfl
  rw [e]
  rcases hv with _ | ⟨h1, _ | ⟨h2, _ | ⟨h3, _ | ⟨h4, _ | ⟨h5, h6⟩⟩⟩⟩⟩
  · simp
  · simp [h1]
  · simp [h1, h2]
  · simp [h1, h2, h3]
  · simp [h1, h2, h3, h4]
  · simp at hl
theorem resv_load {P : Program} {W : World} {σ : St} {a : Act} {t T : Nat} {K : V → Prop} {w0 : Bs} {S : Nat → Prop} {m : Nat} {G : Gm} {F : Nat → Prop} (hR : RelG w0 S m G F σ a W) (h : vLoad P T σ.bk (σ.sl t) K) : ∃ v x, K v ∧ (resv a.tmps (.cell t T)).run P W = .ok x W ∧ Rep F W G v x := by
  obtain ⟨v, x, h1, h2, h3, _⟩ := load_ok (o := ⟨none, .load T (.tmp t), 0, "", #[], none⟩) (x := .tmp t) (T := T) rfl hR h
  refine ⟨v, x, h1, ?_, h3⟩
  obtain ⟨ad, hp⟩ : ∃ ad, a.tmps.getD t undef = .pointer (some ad) := by
    have hs := hR.slot t
    unfold vLoad at h
    split at h
    · rename_i e
      rw [e] at hs
      obtain ⟨g, o, _, e1, _⟩ := hs.px_inv
      exact ⟨_, e1⟩
    · rename_i e
      rw [e] at hs
      exact ⟨_, hs.p_inv⟩
    · rename_i e
      rw [e] at hs
      generalize a.tmps.getD t undef = u at hs
      cases hs
      exact ⟨_, rfl⟩
    · exact h.elim
  unfold execOp at h2
  dsimp only [Act.eval] at h2
  unfold Instr.loadAt at h2
  show ((do loadVar T (← asAddr (a.tmps.getD t undef)) : Sem Value)).run P W = .ok x W
  rw [hp] at h2 ⊢
  simp only [Instr.sureAddr, asAddr, Sem.run_bind, Sem.run_pure, Result.andThen] at h2 ⊢
  cases e2 : (loadVar T ad).run P W with
  | halt y w => rw [e2] at h2; cases h2
  | ok y w =>
    rw [e2] at h2
    simp only [Result.andThen, Sem.run_pure] at h2
    cases h2
    rfl
theorem leL_all {F : Nat → Prop} {W : World} {G : Gm} : ∀ {l rl : List V} {ys : List Value}, leL l rl → All2 (Rep F W G) l ys → All2 (Rep F W G) rl ys
  | [], [], _, _, .nil => .nil
  | _ :: _, _ :: _, _, ho, .cons h t => .cons (le_rep h ho.1) (leL_all ho.2 t)
  | [], _ :: _, _, ho, _ => ho.elim
  | _ :: _, [], _, ho, _ => ho.elim
theorem All2.get {α β : Type _} {R : α → β → Prop} {A : List α} {B : List β} (h : All2 R A B) : ∀ (q : Nat) (y : α) (v : β), A[q]? = some y → B[q]? = some v → R y v := by
  induction h with
  | nil => intro q y v h; simp at h
  | cons h _ ih =>
    intro q y v e1 e2
    cases q with
    | zero => simp at e1 e2; rw [← e1, ← e2]; exact h
    | succ q => exact ih q y v (by simpa using e1) (by simpa using e2)
theorem vw_all {w0 : Bs} {S : Nat → Prop} {m : Nat} {G : Gm} {F : Nat → Prop} {σ : St} {a : Act} {W : World} (hR : RelG w0 S m G F σ a W) : ∀ {l : List V} {ys : List Value}, All2 (Rep F W G) l ys → All2 (Rep (Sees G F σ) W G0) (vwL σ.bk l) ys
  | [], _, .nil => .nil
  | _ :: _, _, .cons h t => .cons (vw_rep hR h) (vw_all hR t)
theorem vRes_ok {P : Program} {W : World} {σ : St} {a : Act} {w0 : Bs} {S : Nat → Prop} {m : Nat} {G : Gm} {F : Nat → Prop} (hR : RelG w0 S m G F σ a W) : ∀ {rs : List ResultVar} {K : List V → Prop}, vRes P σ.bk σ.sl rs K → ∃ l xs, K l ∧ All2 (fun r v => (resv a.tmps r).run P W = .ok v W) rs xs ∧ All2 (Rep F W G) l xs
  | [], K, h => ⟨[], [], h, .nil, .nil⟩
  | .tmp t :: rs, K, h => by
    obtain ⟨l, xs, h1, h2, h3⟩ := vRes_ok hR (rs := rs) h
    exact ⟨σ.sl t :: l, a.tmps.getD t undef :: xs, h1, .cons (by simp [resv]) h2, .cons (hR.slot t) h3⟩
  | .cell t T :: rs, K, h => by
    obtain ⟨v, x, h0, e, hv⟩ := resv_load hR h
    obtain ⟨l, xs, h1, h2, h3⟩ := vRes_ok hR (rs := rs) h0
    exact ⟨v :: l, x :: xs, h1, .cons e h2, .cons hv h3⟩
theorem spec_of {C : Cx} {f : Nat} {fn : Func} {c : Code} {l rl : List V} {rs : List ResultVar} (hx : C.P.follows .mixedOrders = true) (hS : Stab C.L) (hf : C.P.funcs[f]? = some fn) (hb : fn.body = some c) (hname : (fn.name == "runtime.NumGoroutine") = false) (hrs : fn.results = rs.toArray)
    (hchk0 : chkM fn.ntmps c = true) (hlen : l.length ≤ fn.ntmps) (hm : ∀ i, menL l i = false) (hmr : ∀ i, menL rl i = false) (hlr : rl.length = rs.length) (hl4 : rs.length ≤ 4)
    (h : wpC C c ⟨Out C rs rl, fun _ _ => False, Out C rs rl⟩ (ini l)) : Spec C.P C.L f l (pack rl) := by
  refine ⟨⟨fn, hf, by rw [hb]; rfl, hname⟩, fun i => ?_, fun S W xs hL hxs hr hSW => ?_⟩
  · have := hmr i
    unfold pack
    split
    · simpa [menL] using this
    · simpa [men] using this
  · obtain ⟨hml, hchk⟩ : fn.ntmps ≤ 1000000000 ∧ chk fn.ntmps c = true := by unfold chkM at hchk0; simpa using hchk0
    have hR : RelG (Bs.of W) S fn.ntmps G0 S (ini l) { tmps := xs ++ Array.replicate (fn.ntmps - xs.size) undef, defers := [] } W := by
      refine ⟨BelX.refl _ _, by simp; omega, fun t => ?_, fun i b h => (by cases h), fun i b g h => (by cases h), fun i i' b b' g _ h => (by cases h), fun g hg => ⟨hSW g hg, .inr hg⟩, rfl, fun t i h => ?_, fun i b h => (by cases h), fun i A h => (by cases h), hml⟩
      · simp only [ini]
        by_cases ht : t < l.length
        · have e1 : l[t]? = some (l.getD t .j) := by rw [List.getD_eq_getElem?_getD, List.getElem?_eq_getElem ht]; rfl
          refine hr t _ _ e1 ?_
          rw [Array.getD_eq_getD_getElem?, Array.getElem?_append_left (by omega), Array.getElem?_eq_getElem (by omega)]
          rfl
        · rw [List.getD_eq_getElem?_getD, List.getElem?_eq_none (by omega)]
          exact .j _ _
      · simp only [ini] at h
        by_cases ht : t < l.length
        · have e1 : l[t]? = some (l.getD t .j) := by rw [List.getD_eq_getElem?_getD, List.getElem?_eq_getElem ht]; rfl
          have := menL_of e1 h
          rw [hm i] at this
          cases this
        · rw [List.getD_eq_getElem?_getD, List.getElem?_eq_none (by omega)] at h
          cases h
    refine calls_of_wp hf hb (Code.wp_mono (fun e a' W' hq => ?_) (wpC_ok hx hS hL c _ _ _ _ hchk h ⟨G0, S, hR⟩))
    have fin : (∃ σ, Rel (Bs.of W) S fn.ntmps σ a' W' ∧ Out C rs rl σ) → a'.defers = [] ∧ ∃ v, (results fn a'.tmps).run C.P W' = .ok v W' ∧ ∃ v_1 F', Ending.returned v = .returned v_1 ∧ Below W.heap.size W W' ∧ (∀ g, F' g → g < W'.heap.size ∧ (W.heap.size ≤ g ∨ S g)) ∧ Rep F' W' G0 (pack rl) v_1 := by
      rintro ⟨σ, ⟨G, F, hG⟩, ho⟩
      obtain ⟨l0, ys, ho, hrun, hrep⟩ := vRes_ok hG ho
      refine ⟨hG.defers, _, run_res hrs hl4 hrun, _, Sees G F σ, rfl, hG.below.plain, fun g hg => ?_, ?_⟩
      · rcases hg with hg | ⟨i, b, h1, h2⟩
        · exact (hG.fin g hg).imp id fun h => h.imp may_of id
        · obtain ⟨k1, k2, k3⟩ := hG.own i b g h1 h2
          exact ⟨k2, .inl (may_of k1)⟩
      · have key : All2 (Rep (Sees G F σ) W' G0) rl ys := leL_all ho (vw_all hG hrep)
        match rl, ys, key with
        | [], [], _ => exact .tp _ _ _ rfl fun q y v h => by simp at h
        | [y], [x], .cons k _ => exact k
        | y :: y' :: rl, x :: x' :: ys, key => exact .tp _ _ _ (by simpa using key.length_eq.symm) fun q z v e1 e2 => key.get q z v e1 (by simpa using e2)
    cases e with
    | normal => exact fin hq
    | ret => exact fin hq
    | exit i => obtain ⟨_, _, h⟩ := hq; exact h.elim
    | _ => exact hq.elim
end Go.Proofs.YtikmkgoeepgbkaaGreatDoor.Ev
namespace Go.Proofs.YtikmkgoeepgbkaaGreatDoor.Ev
open Go.RowKit
open Go.Proofs.YtikmkgoeepgbkaaGreatDoor.Mem
set_option linter.unusedVariables false

/-- What is kept of a state, and what is carried. -/
def hd (σ : St) (ks kb : List Nat) (vs : List (Nat × V)) (bs : List (Nat × Bk)) : St :=
  { sl := fun t => match vs.lookup t with
      | some v => v
      | none => bif ks.contains t then σ.sl t else .j
    bk := fun i => match bs.lookup i with
      | some b => some b
      | none => bif kb.contains i then σ.bk i else none
    al := fun i => kb.contains i || (bs.lookup i).isSome }

section
variable {w0 : Bs} {S : Nat → Prop} {m : Nat} {G : Gm} {F : Nat → Prop} {σ : St} {a : Act} {W : World}
/-- What fits a loop's head. -/
structure Fits (σ τ : St) (ks kb : List Nat) (vs : List (Nat × V)) (bs : List (Nat × Bk)) (ρ : Nat → Nat) : Prop where
  fks : ∀ t ∈ ks, (vs.lookup t).isSome = false → σ.sl t = τ.sl t
  fvs : ∀ t v, vs.lookup t = some v → σ.sl t = rnV ρ v
  fkb : ∀ i ∈ kb, (bs.lookup i).isSome = false → σ.bk i = τ.bk i
  fbs : ∀ i b, bs.lookup i = some b → σ.bk (ρ i) = some (rnB ρ b)
  id : ∀ i, kb.contains i = true → (bs.lookup i).isSome = false → ρ i = i
  inj : ∀ i j, (kb.contains i || (bs.lookup i).isSome) = true → (kb.contains j || (bs.lookup j).isSome) = true → ρ i = ρ j → i = j
  wk : ∀ t ∈ ks, (vs.lookup t).isSome = false → inM (fun i => kb.contains i && !(bs.lookup i).isSome) (τ.sl t) = true
  wv : ∀ t v, vs.lookup t = some v → inM (fun i => kb.contains i || (bs.lookup i).isSome) v = true
  wb : ∀ i b, bs.lookup i = some b → ∀ k, b.men k = true → (kb.contains k || (bs.lookup k).isSome) = true
  fx : ∀ i, 1000000000 ≤ i → ρ i = i
  wkb : ∀ i ∈ kb, (bs.lookup i).isSome = false → ∀ b, τ.bk i = some b → ∀ k, b.men k = true → (kb.contains k && !(bs.lookup k).isSome) = true
theorem rnB_men {ρ : Nat → Nat} {b : Bk} : True := trivial
theorem ob_rn {ρ : Nat → Nat} {b : Bk} {i : Nat} (g : Nat) : b.ob (fun i => G (ρ i)) i g ↔ (rnB ρ b).ob G (ρ i) g := by
  cases b <;> rfl
theorem RelG.head {τ : St} {ks kb : List Nat} {vs : List (Nat × V)} {bs : List (Nat × Bk)} {ρ : Nat → Nat} (hR : RelG w0 S m G F σ a W) (h : Fits σ τ ks kb vs bs ρ) : RelG w0 S m (fun i => G (ρ i)) F (hd τ ks kb vs bs) a W := by
  have hsame : ∀ v : V, inM (fun i => kb.contains i && !(bs.lookup i).isSome) v = true → ∀ i, men v i = true → ρ i = i := fun v hv i hi => by
    have := inM_men v i hv hi
    simp only [Bool.and_eq_true, Bool.not_eq_true'] at this
    exact h.id i this.1 this.2
  have hbk : ∀ i b, (hd τ ks kb vs bs).bk i = some b → σ.bk (ρ i) = some (rnB ρ b) ∨ (σ.bk i = some b ∧ ρ i = i ∧ kb.contains i = true ∧ ∀ k, b.men k = true → ρ k = k) := fun i b hb => by
    simp only [hd] at hb
    cases e : bs.lookup i with
    | some b' =>
      rw [e] at hb
      obtain rfl := Option.some.inj hb
      exact .inl (h.fbs i _ e)
    | none =>
      rw [e] at hb
      simp only at hb
      cases e2 : kb.contains i with
      | false => rw [e2] at hb; cases hb
      | true =>
        rw [e2] at hb
        simp only [cond_true] at hb
        have hm : i ∈ kb := by simpa using e2
        have e3 : (bs.lookup i).isSome = false := by rw [e]; rfl
        refine .inr ⟨by rw [h.fkb i hm e3]; exact hb, h.id i e2 e3, rfl, fun k hk => ?_⟩
        have := h.wkb i hm e3 b hb k hk
        simp only [Bool.and_eq_true, Bool.not_eq_true'] at this
        exact h.id k this.1 this.2
  have hal : ∀ i b, (hd τ ks kb vs bs).bk i = some b → (kb.contains i || (bs.lookup i).isSome) = true := fun i b hb => by
    simp only [hd] at hb
    cases e : bs.lookup i with
    | some b' => simp
    | none =>
      rw [e] at hb
      simp only at hb
      cases e2 : kb.contains i with
      | false => rw [e2] at hb; cases hb
      | true => rfl
  have hob : ∀ i b g, (hd τ ks kb vs bs).bk i = some b → b.ob (fun i => G (ρ i)) i g → ∃ b', σ.bk (ρ i) = some b' ∧ b'.ob G (ρ i) g := fun i b g hb hg => by
    rcases hbk i b hb with h1 | ⟨h1, h2, h3, h4⟩
    · exact ⟨_, h1, (ob_rn g).1 hg⟩
    · refine ⟨b, by rw [h2]; exact h1, ?_⟩
      rw [h2]
      rwa [ob_ren (G := G) (by rw [h2])] at hg
  refine ⟨hR.below, hR.size, fun t => ?_, fun i b hb => ?_, fun i b g hb hg => ?_, fun i i' b b' g hii hb hb' hg hg' => ?_, hR.fin, hR.defers, fun t i hi => ?_, fun i b hb => ⟨hal i b hb, fun k hk => ?_⟩, fun i A h' => ⟨(hR.fix i A h').1, by show G (ρ i) = A; rw [h.fx i (hR.fix i A h').1]; exact (hR.fix i A h').2⟩, hR.mlt⟩
  · simp only [hd]
    cases e : vs.lookup t with
    | some v => exact (hR.slot t).named v (h.fvs t v e)
    | none =>
      simp only
      cases e2 : ks.contains t with
      | false => exact .j _ _
      | true =>
        have hm : t ∈ ks := by simpa using e2
        have e3 : (vs.lookup t).isSome = false := by rw [e]; rfl
        have h1 := hR.slot t
        rw [h.fks t hm e3] at h1
        simp only [cond_true]
        exact h1.ren fun i hi => by rw [hsame _ (h.wk t hm e3) i hi]
  · rcases hbk i b hb with h1 | ⟨h1, h2, h3, h4⟩
    · have h2 := hR.blk (ρ i) _ h1
      cases b with
      | cells T l =>
        obtain ⟨c, k1, k2, k3⟩ := h2
        exact ⟨c, k1, by rw [k2, rnL_len], fun q y v e1 e2 => (k3 q (rnV ρ y) v (by rw [rnL_get, e1]; rfl) e2).named y rfl⟩
      | row T z α d l e c => exact h2
      | itr l p => exact h2
    · exact (hR.blk i b h1).ren (by simp only [h2]) fun k hk => by simp only [h4 k hk]
  · obtain ⟨b', h1, h2⟩ := hob i b g hb hg
    exact hR.own (ρ i) b' g h1 h2
  · obtain ⟨c, h1, h2⟩ := hob i b g hb hg
    obtain ⟨c', h3, h4⟩ := hob i' b' g hb' hg'
    exact hR.apart (ρ i) (ρ i') c c' g (fun e => hii (h.inj i i' (hal i b hb) (hal i' b' hb') e)) h1 h3 h2 h4
  · simp only [hd] at hi ⊢
    cases e : vs.lookup t with
    | some v => rw [e] at hi; exact inM_men v i (h.wv t v e) hi
    | none =>
      rw [e] at hi
      simp only at hi
      cases e2 : ks.contains t with
      | false => rw [e2] at hi; simp [men] at hi
      | true =>
        rw [e2] at hi
        simp only [cond_true] at hi
        have hm : t ∈ ks := by simpa using e2
        have := inM_men _ i (h.wk t hm (by rw [e]; rfl)) hi
        simp only [Bool.and_eq_true] at this
        rw [this.1]
        rfl
  · simp only [hd] at hb ⊢
    cases e : bs.lookup i with
    | some b' =>
      rw [e] at hb
      obtain rfl := Option.some.inj hb
      exact h.wb i _ e k hk
    | none =>
      rw [e] at hb
      simp only at hb
      cases e2 : kb.contains i with
      | false => rw [e2] at hb; cases hb
      | true =>
        rw [e2] at hb
        simp only [cond_true] at hb
        have hm : i ∈ kb := by simpa using e2
        have := h.wkb i hm (by rw [e]; rfl) b hb k hk
        simp only [Bool.and_eq_true] at this
        rw [this.1]
        rfl
end
/-- Names that stand for what came in are never others. -/
def fxr (ρ : Nat → Nat) (i : Nat) : Nat := bif decide (1000000000 ≤ i) then i else ρ i
/-- A loop, by what is kept and what is carried. -/
theorem lp_hd {B : Ct → St → Prop} {Q : Ct} {σ : St} (ks kb : List Nat) {X : Type} (vs : X → List (Nat × V)) (bs : X → List (Nat × Bk)) (I : X → Prop) (μ : X → Nat) (x0 : X) (ρ0 ρ : Nat → Nat) (h0 : I x0) (hf : Fits σ σ ks kb (vs x0) (bs x0) (fxr ρ0))
    (h : ∀ x, I x → B ⟨fun σ' => ∃ y, I y ∧ μ y < μ x ∧ Fits σ' σ ks kb (vs y) (bs y) (fxr ρ), Q.x, Q.r⟩ (hd σ ks kb (vs x) (bs x))) : lp B Q σ := by
  refine ⟨fun n τ => ∃ x, I x ∧ μ x = n ∧ τ = hd σ ks kb (vs x) (bs x), fun n σ' => ∃ y, I y ∧ μ y < n ∧ Fits σ' σ ks kb (vs y) (bs y) (fxr ρ), μ x0, fun w0 S m a W ⟨G, F, hR⟩ => ⟨_, ⟨_, F, hR.head hf⟩, x0, h0, rfl, rfl⟩, fun n σ' ⟨y, h1, h2, h3⟩ => ?_, fun n τ ⟨x, hI, hn, hτ⟩ => ?_⟩
  · exact fun w0 S m a W ⟨G, F, hR⟩ => ⟨_, ⟨_, F, hR.head h3⟩, μ y, h2, y, h1, rfl, rfl⟩
  · subst hτ
    subst hn
    exact h x hI
end Go.Proofs.YtikmkgoeepgbkaaGreatDoor.Ev
namespace Go.Proofs.YtikmkgoeepgbkaaGreatDoor.Ev
open Go.RowKit
open Go.Proofs.YtikmkgoeepgbkaaGreatDoor.Mem
set_option linter.unusedVariables false
set_option linter.unusedSimpArgs false
/-- A literal of one's own, not looked into. -/
def xLitO (P : Program) (E : Nat → Option Elp) (T d n : Nat) (l : List V) (σ : St) (k : St → Prop) : Prop := xLit P E T d n l σ k
theorem lto {P : Program} {E : Nat → Option Elp} {T d n : Nat} {l : List V} {σ : St} {k : St → Prop} (h : xLit P E T d n l σ k) : xLitO P E T d n l σ k := h
/-- Flow. -/
theorem ec : (∀ (C : Cx) (Q : Ct) (σ : St), wpC C .skip Q σ = Q.n σ) ∧
    (∀ (C : Cx) (Q : Ct) (σ : St) i o, wpC C (.region i o true) Q σ = drR C (inC (1000000 + i) C.cut) o Q.n σ) ∧
    (∀ (C : Cx) (σ : St) (k : St → Prop) o, drR C false o k σ = wpR C o.toList o.toList k σ) ∧
    (∀ (C : Cx) (Q : Ct) (σ : St) i o, wpC C (.region i o false) Q σ = wpX C o.toList o.toList Q.n σ) ∧
    (∀ (C : Cx) (σ : St) (k : St → Prop) (ops : List Oper), wpX C ops [] k σ = k σ) ∧
    (∀ (C : Cx) (σ : St) (k : St → Prop) (ops : List Oper) o l, wpX C ops (o :: l) k σ = exY C ops o (wpX C ops l k) σ) ∧
    (∀ (C : Cx) (Q : Ct) (σ : St) x y, wpC C (.seq x y) Q σ = sq (cutA C.cut y) (wpC C x) (wpC C y Q) Q σ) ∧
    (∀ A B Q σ, sq false A B Q σ = A ⟨B, Q.x, Q.r⟩ σ) ∧
    (∀ y, cutA [] y = false) ∧
    (∀ k cu x y, cutA (k :: cu) (.seq x y) = cutA (k :: cu) x) ∧
    (∀ k cu i o b, cutA (k :: cu) (.region i o b) = inC i (k :: cu)) ∧
    (∀ k cu, cutA (k :: cu) .skip = false) ∧ (∀ k cu, cutA (k :: cu) .ret = false) ∧ (∀ k cu i, cutA (k :: cu) (.exit i) = false) ∧ (∀ k cu i x, cutA (k :: cu) (.block i x) = false) ∧ (∀ k cu x, cutA (k :: cu) (.loop x) = false) ∧ (∀ k cu c x y, cutA (k :: cu) (.cond c x y) = false) ∧
    (∀ t, inC t [] = false) ∧ (∀ t k l, inC t (k :: l) = (decide (t = k) || inC t l)) ∧
    (∀ (C : Cx) (Q : Ct) (σ : St) c x y, wpC C (.cond c x y) Q σ = cnd (σ.rd c) (wpC C x Q) (wpC C y Q) σ) ∧
    (∀ (C : Cx) (Q : Ct) (σ : St) i x, wpC C (.block i x) Q σ = wpC C x ⟨Q.n, exU i Q.n Q.x, Q.r⟩ σ) ∧
    (∀ (C : Cx) (Q : Ct) (σ : St) x, wpC C (.loop x) Q σ = lp (wpC C x) Q σ) ∧
    (∀ (C : Cx) (Q : Ct) (σ : St) i, wpC C (.exit i) Q σ = Q.x i σ) ∧
    (∀ (C : Cx) (Q : Ct) (σ : St), wpC C .ret Q σ = Q.r σ) ∧
    (∀ (C : Cx) (Q : Ct) (σ : St) x, wpC C (.scope x) Q σ = wpC C x Q σ) ∧
    (∀ k cu x, cutA (k :: cu) (.scope x) = false) ∧
    (∀ (C : Cx) (σ : St) (k : St → Prop) (ops : List Oper), wpR C ops [] k σ = k σ) ∧
    (∀ (C : Cx) (σ : St) (k : St → Prop) (ops : List Oper) o l, wpR C ops (o :: l) k σ = exG C ops o (wpR C ops l k) σ) ∧
    (∀ (σ : St) A B, cnd (.b true) A B σ = A σ) ∧
    (∀ (σ : St) A B, cnd (.b false) A B σ = B σ) ∧
    (∀ (σ : St) i f g k, exU i f g k σ = (if k = i then f σ else g k σ)) :=
  ⟨by intros; rfl, by intros; rfl, by intros; rfl, by intros; first | rfl | (simp [cnd]; done) | (simp [gsp]; done) | (rename_i y; induction y <;> simp [cutA, inC, *]), by intros; first | rfl | (simp [cnd]; done) | (simp [gsp]; done) | (rename_i y; induction y <;> simp [cutA, inC, *]), by intros; first | rfl | (simp [cnd]; done) | (simp [gsp]; done) | (rename_i y; induction y <;> simp [cutA, inC, *]), by intros; first | rfl | (simp [cnd]; done) | (simp [gsp]; done) | (rename_i y; induction y <;> simp [cutA, inC, *]), by intros; first | rfl | (simp [cnd]; done) | (simp [gsp]; done) | (rename_i y; induction y <;> simp [cutA, inC, *]), by intros; first | rfl | (simp [cnd]; done) | (simp [gsp]; done) | (rename_i y; induction y <;> simp [cutA, inC, *]), by intros; first | rfl | (simp [cnd]; done) | (simp [gsp]; done) | (rename_i y; induction y <;> simp [cutA, inC, *]), by intros; first | rfl | (simp [cnd]; done) | (simp [gsp]; done) | (rename_i y; induction y <;> simp [cutA, inC, *]), by intros; first | rfl | (simp [cnd]; done) | (simp [gsp]; done) | (rename_i y; induction y <;> simp [cutA, inC, *]), by intros; first | rfl | (simp [cnd]; done) | (simp [gsp]; done) | (rename_i y; induction y <;> simp [cutA, inC, *]), by intros; first | rfl | (simp [cnd]; done) | (simp [gsp]; done) | (rename_i y; induction y <;> simp [cutA, inC, *]), by intros; first | rfl | (simp [cnd]; done) | (simp [gsp]; done) | (rename_i y; induction y <;> simp [cutA, inC, *]), by intros; first | rfl | (simp [cnd]; done) | (simp [gsp]; done) | (rename_i y; induction y <;> simp [cutA, inC, *]), by intros; first | rfl | (simp [cnd]; done) | (simp [gsp]; done) | (rename_i y; induction y <;> simp [cutA, inC, *]), by intros; first | rfl | (simp [cnd]; done) | (simp [gsp]; done) | (rename_i y; induction y <;> simp [cutA, inC, *]), by intros; first | rfl | (simp [cnd]; done) | (simp [gsp]; done) | (rename_i y; induction y <;> simp [cutA, inC, *]), by intros; first | rfl | (simp [cnd]; done) | (simp [gsp]; done) | (rename_i y; induction y <;> simp [cutA, inC, *]), by intros; first | rfl | (simp [cnd]; done) | (simp [gsp]; done) | (rename_i y; induction y <;> simp [cutA, inC, *]), by intros; first | rfl | (simp [cnd]; done) | (simp [gsp]; done) | (rename_i y; induction y <;> simp [cutA, inC, *]), by intros; first | rfl | (simp [cnd]; done) | (simp [gsp]; done) | (rename_i y; induction y <;> simp [cutA, inC, *]), by intros; first | rfl | (simp [cnd]; done) | (simp [gsp]; done) | (rename_i y; induction y <;> simp [cutA, inC, *]), by intros; first | rfl | (simp [cnd]; done) | (simp [gsp]; done) | (rename_i y; induction y <;> simp [cutA, inC, *]), by intros; first | rfl | (simp [cnd]; done) | (simp [gsp]; done) | (rename_i y; induction y <;> simp [cutA, inC, *]), by intros; first | rfl | (simp [cnd]; done) | (simp [gsp]; done) | (rename_i y; induction y <;> simp [cutA, inC, *]), by intros; first | rfl | (simp [cnd]; done) | (simp [gsp]; done) | (rename_i y; induction y <;> simp [cutA, inC, *]), by intros; first | rfl | (simp [cnd]; done) | (simp [gsp]; done) | (rename_i y; induction y <;> simp [cutA, inC, *]), by intros; first | rfl | (simp [cnd]; done) | (simp [gsp]; done) | (rename_i y; induction y <;> simp [cutA, inC, *]), by intros; first | rfl | (simp [cnd]; done) | (simp [gsp]; done) | (rename_i y; induction y <;> simp [cutA, inC, *])⟩
/-- Guards. -/
theorem eg : (∀ (C : Cx) (σ : St) (k : St → Prop) (ops : List Oper) (ty : TypeId) (ps : String) (af : Array Edge) d op, exG C ops ⟨d, op, ty, ps, af, none⟩ k σ = exOp C ⟨d, op, ty, ps, af, none⟩ k σ) ∧
    (∀ (C : Cx) (σ : St) (k : St → Prop) (ops : List Oper) (ty : TypeId) (ps : String) (af : Array Edge) d op j w, exG C ops ⟨d, op, ty, ps, af, some (j, w)⟩ k σ = match (ops[j]?).bind (·.dst) with
      | some g => gspX (σ.sl g) g w (exOp C ⟨d, op, ty, ps, af, some (j, w)⟩ k) (skX ⟨d, op, ty, ps, af, some (j, w)⟩ k) σ
      | none => False) ∧
    (∀ (C : Cx) (σ : St) (k : St → Prop) (ops : List Oper) (ty : TypeId) (ps : String) (af : Array Edge) d op, exY C ops ⟨d, op, ty, ps, af, none⟩ k σ = exX C ⟨d, op, ty, ps, af, none⟩ k σ) ∧
    (∀ (C : Cx) (σ : St) (k : St → Prop) (ops : List Oper) (ty : TypeId) (ps : String) (af : Array Edge) d op j w, exY C ops ⟨d, op, ty, ps, af, some (j, w)⟩ k σ = match (ops[j]?).bind (·.dst) with
      | some g => gspX (σ.sl g) g w (exX C ⟨d, op, ty, ps, af, some (j, w)⟩ k) (skX ⟨d, op, ty, ps, af, some (j, w)⟩ k) σ
      | none => False) ∧
    (∀ (σ : St) i w A B, gspX (.tp []) i w A B σ = B σ) ∧
    (∀ (σ : St) i w A B x, gspX (.b x) i w A B σ = gsp (.b x) i w A B σ) ∧
    (∀ (σ : St) (k : St → Prop) (ty : TypeId) (ps : String) (af : Array Edge) (g : Option (Nat × Bool)) d op, skX ⟨some d, op, ty, ps, af, g⟩ k σ = k (σ.put d (.tp []))) ∧
    (∀ (σ : St) (k : St → Prop) (ty : TypeId) (ps : String) (af : Array Edge) (g : Option (Nat × Bool)) op, skX ⟨none, op, ty, ps, af, g⟩ k σ = k σ) ∧
    (∀ (σ : St) i A B, gsp (.b true) i true A B σ = A (σ.put i (.b true))) ∧
    (∀ (σ : St) i A B, gsp (.b false) i true A B σ = B (σ.put i (.b false))) ∧
    (∀ (σ : St) i A B, gsp (.b true) i false A B σ = B (σ.put i (.b true))) ∧
    (∀ (σ : St) i A B, gsp (.b false) i false A B σ = A (σ.put i (.b false))) ∧
    (∀ (σ : St) (k : St → Prop) (ty : TypeId) (ps : String) (af : Array Edge) (g : Option (Nat × Bool)) d op, skO ⟨some d, op, ty, ps, af, g⟩ k σ = k (σ.put d .j)) ∧
    (∀ (σ : St) (k : St → Prop) (ty : TypeId) (ps : String) (af : Array Edge) (g : Option (Nat × Bool)) op, skO ⟨none, op, ty, ps, af, g⟩ k σ = k σ) ∧
    (∀ (σ : St) (k : St → Prop) (d : Nat) (v : V), pk σ d k v = k (σ.put d v)) :=
  ⟨by intros; rfl, by intros; rfl, by intros; rfl, by intros; rfl, by intros; rfl, by intros; rfl, by intros; rfl, by intros; rfl, by intros; first | (simp [cnd]; done) | (simp [gsp]; done), by intros; first | (simp [cnd]; done) | (simp [gsp]; done), by intros; first | (simp [cnd]; done) | (simp [gsp]; done), by intros; first | (simp [cnd]; done) | (simp [gsp]; done), by intros; rfl, by intros; rfl, by intros; rfl⟩
/-- Operations. -/
theorem eo : (∀ (C : Cx) (σ : St) (k : St → Prop) (d : Nat) (x : Operand) (ty : TypeId) (ps : String) (af : Array Edge) (g : Option (Nat × Bool)), exOp C ⟨some d, .move x, ty, ps, af, g⟩ k σ = k (σ.put d (σ.rd x))) ∧
    (∀ (C : Cx) (σ : St) (k : St → Prop) (d : Nat) (x : Operand) (ty : TypeId) (ps : String) (af : Array Edge) (g : Option (Nat × Bool)), exOp C ⟨some d, .assign x, ty, ps, af, g⟩ k σ = k (σ.put d (σ.rd x))) ∧
    (∀ (C : Cx) (σ : St) (k : St → Prop) (d : Nat) (x : Operand) (y : Operand) (ty : TypeId) (ps : String) (af : Array Edge) (g : Option (Nat × Bool)) c, exOp C ⟨some d, .pick c x y, ty, ps, af, g⟩ k σ = vPick (σ.rd c) (σ.rd x) (σ.rd y) (pk σ d k)) ∧
    (∀ (C : Cx) (σ : St) (k : St → Prop) (d : Nat) (x : Operand) (y : Operand) (ty : TypeId) (T : TypeId) (T' : TypeId) (ps : String) (af : Array Edge) (g : Option (Nat × Bool)) op, exOp C ⟨some d, .binOp op T x y T', ty, ps, af, g⟩ k σ = vBinT C.P T y op (σ.rd x) (σ.rd y) (pk σ d k)) ∧
    (∀ (C : Cx) (σ : St) (k : St → Prop) (d : Nat) (x : Operand) (ty : TypeId) (T : TypeId) (ps : String) (af : Array Edge) (g : Option (Nat × Bool)) op, exOp C ⟨some d, .unOp op T x, ty, ps, af, g⟩ k σ = vUn op (σ.rd x) (pk σ d k)) ∧
    (∀ (C : Cx) (σ : St) (k : St → Prop) (d : Nat) (x : Operand) (ty : TypeId) (T : TypeId) (T' : TypeId) (ps : String) (af : Array Edge) (g : Option (Nat × Bool)), exOp C ⟨some d, .convert T T' x, ty, ps, af, g⟩ k σ = vConv C.P T T' (σ.rd x) (pk σ d k)) ∧
    (∀ (C : Cx) (σ : St) (k : St → Prop) (d : Nat) (x : Operand) (ty : TypeId) (ps : String) (af : Array Edge) (g : Option (Nat × Bool)) i, exOp C ⟨some d, .extract x i, ty, ps, af, g⟩ k σ = vExt (σ.rd x) i (pk σ d k)) ∧
    (∀ (C : Cx) (σ : St) (k : St → Prop) (d : Nat) (x : Operand) (ty : TypeId) (T : TypeId) (ps : String) (af : Array Edge) (g : Option (Nat × Bool)) i, exOp C ⟨some d, .field T x i, ty, ps, af, g⟩ k σ = vField C.P T (σ.rd x) i (pk σ d k)) ∧
    (∀ (C : Cx) (σ : St) (k : St → Prop) (d : Nat) (x : Operand) (y : Operand) (ty : TypeId) (T : TypeId) (ps : String) (af : Array Edge) (g : Option (Nat × Bool)), exOp C ⟨some d, .index T x y, ty, ps, af, g⟩ k σ = vIndex C.P T (σ.rd x) (σ.rd y) (pk σ d k)) ∧
    (∀ (C : Cx) (σ : St) (k : St → Prop) (d : Nat) (x : Operand) (ty : TypeId) (T : TypeId) (ps : String) (af : Array Edge) (g : Option (Nat × Bool)) lo hi, exOp C ⟨some d, .slice T x lo hi none, ty, ps, af, g⟩ k σ = vCut C.P T (σ.rd x) (lo.map σ.rd) (hi.map σ.rd) (pk σ d k)) ∧
    (∀ (C : Cx) (σ : St) (k : St → Prop) (d : Nat) (x : Operand) (y : Operand) (ty : TypeId) (T : TypeId) (ps : String) (af : Array Edge) (g : Option (Nat × Bool)), exOp C ⟨some d, .indexAddr T x y, ty, ps, af, g⟩ k σ = vIxA C.P T σ.bk (σ.rd x) (σ.rd y) (pk σ d k)) ∧
    (∀ (C : Cx) (σ : St) (k : St → Prop) (d : Nat) (x : Operand) (ty : TypeId) (T : TypeId) (ps : String) (af : Array Edge) (g : Option (Nat × Bool)) i, exOp C ⟨some d, .fieldAddr T x i, ty, ps, af, g⟩ k σ = vFldA C.P T (σ.rd x) i (pk σ d k)) ∧
    (∀ (C : Cx) (σ : St) (k : St → Prop) (d : Nat) (x : Operand) (ty : TypeId) (T : TypeId) (ps : String) (af : Array Edge) (g : Option (Nat × Bool)), exOp C ⟨some d, .load T x, ty, ps, af, g⟩ k σ = vLoadG C.P C.L T σ.bk (σ.rd x) (pk σ d k)) ∧
    (∀ (C : Cx) (σ : St) (k : St → Prop) (d : Nat) (ty : TypeId) (T : TypeId) (ps : String) (af : Array Edge) (g : Option (Nat × Bool)) p, exOp C ⟨some d, .build T p, ty, ps, af, g⟩ k σ = vBuild C.P T (p.toList.map fun p => (p.1, σ.rd p.2)) (pk σ d k)) ∧
    (∀ (C : Cx) (σ : St) (k : St → Prop) (d : Nat) (ty : TypeId) (T : TypeId) (ps : String) (af : Array Edge) (g : Option (Nat × Bool)), exOp C ⟨some d, .alloc T, ty, ps, af, g⟩ k σ = xAlloc C.P T d σ k) ∧
    (∀ (C : Cx) (σ : St) (k : St → Prop) (d : Nat) (x : Operand) (ty : TypeId) (T : TypeId) (ps : String) (af : Array Edge) (g : Option (Nat × Bool)), exOp C ⟨some d, .box T x, ty, ps, af, g⟩ k σ = xBox T d (σ.rd x) σ k) ∧
    (∀ (C : Cx) (σ : St) (k : St → Prop) (x : Operand) (y : Operand) (ty : TypeId) (T : TypeId) (ps : String) (af : Array Edge) (g : Option (Nat × Bool)), exOp C ⟨none, .store T x y, ty, ps, af, g⟩ k σ = xStore C.P T (σ.rd x) (σ.rd y) σ k) ∧
    (∀ (C : Cx) (σ : St) (k : St → Prop) (d : Nat) (x : Operand) (y : Operand) (ty : TypeId) (T : TypeId) (ps : String) (af : Array Edge) (g : Option (Nat × Bool)), exOp C ⟨some d, .makeSlice T x y, ty, ps, af, g⟩ k σ = xMake C.P C.E T d (σ.rd x) (σ.rd y) σ k) ∧
    (∀ (C : Cx) (σ : St) (k : St → Prop) (d : Nat) (ty : TypeId) (T : TypeId) (ps : String) (af : Array Edge) (g : Option (Nat × Bool)) n p, exOp C ⟨some d, .buildSlice T n p, ty, ps, af, g⟩ k σ = (p.toList.map (·.1) = List.range n ∧ (xLitO C.P C.E T d n (p.toList.map fun p => σ.rd p.2) σ k ∨ xLitR C.P C.E T d n (p.toList.map fun p => σ.rd p.2) σ k))) ∧
    (∀ (C : Cx) (σ : St) (k : St → Prop) (d : Nat) (ty : TypeId) (ps : String) (af : Array Edge) (g : Option (Nat × Bool)) f xs ts, exOp C ⟨some d, .call ⟨.value (.func f), xs, ts⟩, ty, ps, af, g⟩ k σ = xCall C.P C.L f d (xs.toList.map σ.rd) σ k) ∧
    (∀ (C : Cx) (σ : St) (k : St → Prop) (d : Nat) (x : Operand) (ty : TypeId) (T : TypeId) (ps : String) (af : Array Edge) (g : Option (Nat × Bool)), exOp C ⟨some d, .call ⟨.builtin .len, ⟨[x]⟩, ⟨[T]⟩⟩, ty, ps, af, g⟩ k σ = vLen C.P T (σ.rd x) (pk σ d k)) ∧
    (∀ (C : Cx) (σ : St) (k : St → Prop) (d : Nat) (x : Operand) (y : Operand) (ty : TypeId) (T : TypeId) (T' : TypeId) (ps : String) (af : Array Edge) (g : Option (Nat × Bool)), exOp C ⟨some d, .call ⟨.builtin .append, ⟨[x, y]⟩, ⟨[T, T']⟩⟩, ty, ps, af, g⟩ k σ = vSrcG C.P T T' σ.bk (σ.rd x) (σ.rd y) (appK C.P C.E T d (σ.rd x) σ k)) :=
  ⟨by intros; rfl, by intros; rfl, by intros; rfl, by intros; rfl, by intros; rfl, by intros; rfl, by intros; rfl, by intros; rfl, by intros; rfl, by intros; rfl, by intros; rfl, by intros; rfl, by intros; rfl, by intros; rfl, by intros; rfl, by intros; rfl, by intros; rfl, by intros; rfl, by intros; rfl, by intros; rfl, by intros; rfl, by intros; rfl⟩
/-- Operations, where rows may be handed over. -/
theorem eox : (∀ (C : Cx) (σ : St) (k : St → Prop) (d : Nat) (x : Operand) (ty : TypeId) (ps : String) (af : Array Edge) (g : Option (Nat × Bool)), exX C ⟨some d, .move x, ty, ps, af, g⟩ k σ = k (σ.put d (σ.rd x))) ∧
    (∀ (C : Cx) (σ : St) (k : St → Prop) (d : Nat) (x : Operand) (ty : TypeId) (ps : String) (af : Array Edge) (g : Option (Nat × Bool)), exX C ⟨some d, .assign x, ty, ps, af, g⟩ k σ = k (σ.put d (σ.rd x))) ∧
    (∀ (C : Cx) (σ : St) (k : St → Prop) (d : Nat) (x : Operand) (y : Operand) (ty : TypeId) (ps : String) (af : Array Edge) (g : Option (Nat × Bool)) c, exX C ⟨some d, .pick c x y, ty, ps, af, g⟩ k σ = vPick (σ.rd c) (σ.rd x) (σ.rd y) (pk σ d k)) ∧
    (∀ (C : Cx) (σ : St) (k : St → Prop) (d : Nat) (x : Operand) (y : Operand) (ty : TypeId) (T : TypeId) (T' : TypeId) (ps : String) (af : Array Edge) (g : Option (Nat × Bool)) op, exX C ⟨some d, .binOp op T x y T', ty, ps, af, g⟩ k σ = vBinX C.P T y op (σ.rd x) (σ.rd y) (pk σ d k)) ∧
    (∀ (C : Cx) (σ : St) (k : St → Prop) (d : Nat) (x : Operand) (ty : TypeId) (T : TypeId) (ps : String) (af : Array Edge) (g : Option (Nat × Bool)) op, exX C ⟨some d, .unOp op T x, ty, ps, af, g⟩ k σ = vUn op (σ.rd x) (pk σ d k)) ∧
    (∀ (C : Cx) (σ : St) (k : St → Prop) (d : Nat) (x : Operand) (ty : TypeId) (T : TypeId) (T' : TypeId) (ps : String) (af : Array Edge) (g : Option (Nat × Bool)), exX C ⟨some d, .convert T T' x, ty, ps, af, g⟩ k σ = vConv C.P T T' (vw σ.bk (σ.rd x)) (pk σ d k)) ∧
    (∀ (C : Cx) (σ : St) (k : St → Prop) (d : Nat) (x : Operand) (ty : TypeId) (ps : String) (af : Array Edge) (g : Option (Nat × Bool)) i, exX C ⟨some d, .extract x i, ty, ps, af, g⟩ k σ = vExt (σ.rd x) i (pk σ d k)) ∧
    (∀ (C : Cx) (σ : St) (k : St → Prop) (d : Nat) (x : Operand) (ty : TypeId) (T : TypeId) (ps : String) (af : Array Edge) (g : Option (Nat × Bool)) i, exX C ⟨some d, .field T x i, ty, ps, af, g⟩ k σ = vField C.P T (σ.rd x) i (pk σ d k)) ∧
    (∀ (C : Cx) (σ : St) (k : St → Prop) (d : Nat) (x : Operand) (y : Operand) (ty : TypeId) (T : TypeId) (ps : String) (af : Array Edge) (g : Option (Nat × Bool)), exX C ⟨some d, .index T x y, ty, ps, af, g⟩ k σ = vIndex C.P T (σ.rd x) (σ.rd y) (pk σ d k)) ∧
    (∀ (C : Cx) (σ : St) (k : St → Prop) (d : Nat) (x : Operand) (ty : TypeId) (T : TypeId) (ps : String) (af : Array Edge) (g : Option (Nat × Bool)) lo hi, exX C ⟨some d, .slice T x lo hi none, ty, ps, af, g⟩ k σ = vCut C.P T (σ.rd x) (lo.map σ.rd) (hi.map σ.rd) (pk σ d k)) ∧
    (∀ (C : Cx) (σ : St) (k : St → Prop) (d : Nat) (x : Operand) (y : Operand) (ty : TypeId) (T : TypeId) (ps : String) (af : Array Edge) (g : Option (Nat × Bool)), exX C ⟨some d, .indexAddr T x y, ty, ps, af, g⟩ k σ = vIxA C.P T σ.bk (σ.rd x) (σ.rd y) (pk σ d k)) ∧
    (∀ (C : Cx) (σ : St) (k : St → Prop) (d : Nat) (x : Operand) (ty : TypeId) (T : TypeId) (ps : String) (af : Array Edge) (g : Option (Nat × Bool)) i, exX C ⟨some d, .fieldAddr T x i, ty, ps, af, g⟩ k σ = vFldA C.P T (σ.rd x) i (pk σ d k)) ∧
    (∀ (C : Cx) (σ : St) (k : St → Prop) (d : Nat) (x : Operand) (ty : TypeId) (T : TypeId) (ps : String) (af : Array Edge) (g : Option (Nat × Bool)), exX C ⟨some d, .load T x, ty, ps, af, g⟩ k σ = vLoadG C.P C.L T σ.bk (σ.rd x) (pk σ d k)) ∧
    (∀ (C : Cx) (σ : St) (k : St → Prop) (d : Nat) (ty : TypeId) (T : TypeId) (ps : String) (af : Array Edge) (g : Option (Nat × Bool)) p, exX C ⟨some d, .build T p, ty, ps, af, g⟩ k σ = vBuild C.P T (p.toList.map fun p => (p.1, σ.rd p.2)) (pk σ d k)) ∧
    (∀ (C : Cx) (σ : St) (k : St → Prop) (d : Nat) (ty : TypeId) (T : TypeId) (ps : String) (af : Array Edge) (g : Option (Nat × Bool)), exX C ⟨some d, .alloc T, ty, ps, af, g⟩ k σ = xAlloc C.P T d σ k) ∧
    (∀ (C : Cx) (σ : St) (k : St → Prop) (d : Nat) (x : Operand) (ty : TypeId) (T : TypeId) (ps : String) (af : Array Edge) (g : Option (Nat × Bool)), exX C ⟨some d, .box T x, ty, ps, af, g⟩ k σ = xBox T d (σ.rd x) σ k) ∧
    (∀ (C : Cx) (σ : St) (k : St → Prop) (x : Operand) (y : Operand) (ty : TypeId) (T : TypeId) (ps : String) (af : Array Edge) (g : Option (Nat × Bool)), exX C ⟨none, .store T x y, ty, ps, af, g⟩ k σ = xStore C.P T (σ.rd x) (σ.rd y) σ k) ∧
    (∀ (C : Cx) (σ : St) (k : St → Prop) (d : Nat) (x : Operand) (y : Operand) (ty : TypeId) (T : TypeId) (ps : String) (af : Array Edge) (g : Option (Nat × Bool)), exX C ⟨some d, .makeSlice T x y, ty, ps, af, g⟩ k σ = xMake C.P C.E T d (σ.rd x) (σ.rd y) σ k) ∧
    (∀ (C : Cx) (σ : St) (k : St → Prop) (d : Nat) (ty : TypeId) (T : TypeId) (ps : String) (af : Array Edge) (g : Option (Nat × Bool)) n p, exX C ⟨some d, .buildSlice T n p, ty, ps, af, g⟩ k σ = (p.toList.map (·.1) = List.range n ∧ (xLitO C.P C.E T d n (p.toList.map fun p => σ.rd p.2) σ k ∨ xLitR C.P C.E T d n (p.toList.map fun p => σ.rd p.2) σ k))) ∧
    (∀ (C : Cx) (σ : St) (k : St → Prop) (d : Nat) (ty : TypeId) (ps : String) (af : Array Edge) (g : Option (Nat × Bool)) f xs ts, exX C ⟨some d, .call ⟨.value (.func f), xs, ts⟩, ty, ps, af, g⟩ k σ = (xCall C.P C.L f d (xs.toList.map σ.rd) σ k ∨ xCallO C.P C.L f d (xs.toList.map σ.rd) σ k ∨ xCallF C.P C.L f d xs.toList σ k ∨ xCallP C.P C.L f d (xs.toList.map σ.rd) σ k)) ∧
    (∀ (C : Cx) (σ : St) (k : St → Prop) (d : Nat) (x : Operand) (ty : TypeId) (T : TypeId) (ps : String) (af : Array Edge) (g : Option (Nat × Bool)), exX C ⟨some d, .call ⟨.builtin .len, ⟨[x]⟩, ⟨[T]⟩⟩, ty, ps, af, g⟩ k σ = vLen C.P T (σ.rd x) (pk σ d k)) ∧
    (∀ (C : Cx) (σ : St) (k : St → Prop) (d : Nat) (x : Operand) (y : Operand) (ty : TypeId) (T : TypeId) (T' : TypeId) (ps : String) (af : Array Edge) (g : Option (Nat × Bool)), exX C ⟨some d, .call ⟨.builtin .append, ⟨[x, y]⟩, ⟨[T, T']⟩⟩, ty, ps, af, g⟩ k σ = vSrcG C.P T T' σ.bk (σ.rd x) (σ.rd y) (appK C.P C.E T d (σ.rd x) σ k)) ∧
    (∀ (C : Cx) (σ : St) (k : St → Prop) (d : Nat) (x : Operand) (y : Operand) (ty : TypeId) (T : TypeId) (T' : TypeId) (ps : String) (af : Array Edge) (g : Option (Nat × Bool)), exX C ⟨some d, .call ⟨.builtin .min, ⟨[x, y]⟩, ⟨[T, T']⟩⟩, ty, ps, af, g⟩ k σ = (T = T' ∧ vMin C.P T (σ.rd x) (σ.rd y) (pk σ d k))) :=
  ⟨by intros; rfl, by intros; rfl, by intros; rfl, by intros; rfl, by intros; rfl, by intros; rfl, by intros; rfl, by intros; rfl, by intros; rfl, by intros; rfl, by intros; rfl, by intros; rfl, by intros; rfl, by intros; rfl, by intros; rfl, by intros; rfl, by intros; rfl, by intros; rfl, by intros; rfl, by intros; rfl, by intros; rfl, by intros; rfl, by intros; rfl⟩
/-- States. -/
theorem es : (∀ (σ : St) t, σ.rd (.tmp t) = σ.sl t) ∧
    (∀ (σ : St) k n, σ.rd (.const (.int k n)) = .n k n) ∧
    (∀ (σ : St) b, σ.rd (.const (.bool b)) = .b b) ∧
    (∀ (σ : St) (l : List UInt8), σ.rd (.const (.string ⟨l.toArray⟩)) = .s l) ∧
    (∀ (σ : St), σ.rd (.const (.slice none 0 0)) = .nl) ∧
    (∀ (σ : St), σ.rd (.const (.pointer none)) = .pn) ∧
    (∀ (σ : St), σ.rd (.const .nilIface) = .inil) ∧
    (∀ (σ : St) f, σ.rd (.func f) = .fn f) ∧
    (∀ (σ : St) g, σ.rd (.global g) = .gl g 0) ∧
    (∀ (σ : St) (d : Nat) (t : Nat) (v : V), (σ.put d v).sl t = if t = d then v else σ.sl t) ∧
    (∀ (σ : St) (d : Nat) (v : V), (σ.put d v).bk = σ.bk) ∧
    (∀ (σ : St) (d : Nat) (v : V), (σ.put d v).al = σ.al) ∧
    (∀ (σ : St) (d : Nat) (t : Nat) (v : V) s b, (σ.nw d v s b).sl t = if t = d then v else σ.sl t) ∧
    (∀ (σ : St) (d : Nat) (i : Nat) (v : V) s b, (σ.nw d v s b).bk i = if i = d then some b else if s = some i then none else σ.bk i) ∧
    (∀ (σ : St) (d : Nat) (i : Nat) (v : V) s b, (σ.nw d v s b).al i = (i == d || σ.al i)) ∧
    (∀ (σ : St) (d : Nat) b, (σ.setB d b).sl = σ.sl) ∧
    (∀ (σ : St) (d : Nat) b, (σ.setB d b).al = σ.al) ∧
    (∀ (σ : St) (d : Nat) (i : Nat) b, (σ.setB d b).bk i = if i = d then some b else σ.bk i) ∧
    (∀ (t : Nat) l, (ini l).sl t = l.getD t .j) ∧
    (∀ (i : Nat) l, (ini l).bk i = none) ∧
    (∀ (i : Nat) l, (ini l).al i = false) :=
  ⟨by intros; rfl, by intros; rfl, by intros; rfl, by intros; exact congrArg V.s (by simp [bl]), by intros; rfl, by intros; rfl, by intros; rfl, by intros; rfl, by intros; rfl, by intros; rfl, by intros; rfl, by intros; rfl, by intros; rfl, by intros; rfl, by intros; rfl, by intros; rfl, by intros; rfl, by intros; rfl, by intros; rfl, by intros; rfl, by intros; rfl⟩
/-- Values. -/
theorem ev : (∀ (K : V → Prop) k p k' q, vBin .add (.n k p) (.n k' q) K = (k = k' ∧ K (.n k (k.wrap (p + q))))) ∧
    (∀ (K : V → Prop) k p k' q, vBin .sub (.n k p) (.n k' q) K = (k = k' ∧ K (.n k (k.wrap (p - q))))) ∧
    (∀ (K : V → Prop) k p k' q, vBin .mul (.n k p) (.n k' q) K = (k = k' ∧ K (.n k (k.wrap (p * q))))) ∧
    (∀ (K : V → Prop) k p k' q, vBin .quo (.n k p) (.n k' q) K = ((k = k' ∧ q ≠ 0) ∧ K (.n k (k.wrap (p.tdiv q))))) ∧
    (∀ (K : V → Prop) k p k' q, vBin .rem (.n k p) (.n k' q) K = ((k = k' ∧ q ≠ 0) ∧ K (.n k (p.tmod q)))) ∧
    (∀ (K : V → Prop) k p k' q, vBin .eql (.n k p) (.n k' q) K = (k = k' ∧ K (.b (decide (p = q))))) ∧
    (∀ (K : V → Prop) k p k' q, vBin .neq (.n k p) (.n k' q) K = (k = k' ∧ K (.b (decide (p ≠ q))))) ∧
    (∀ (K : V → Prop) k p k' q, vBin .lss (.n k p) (.n k' q) K = (k = k' ∧ K (.b (decide (p < q))))) ∧
    (∀ (K : V → Prop) k p k' q, vBin .leq (.n k p) (.n k' q) K = (k = k' ∧ K (.b (decide (p ≤ q))))) ∧
    (∀ (K : V → Prop) k p k' q, vBin .gtr (.n k p) (.n k' q) K = (k = k' ∧ K (.b (decide (q < p))))) ∧
    (∀ (K : V → Prop) k p k' q, vBin .geq (.n k p) (.n k' q) K = (k = k' ∧ K (.b (decide (q ≤ p))))) ∧
    (∀ (K : V → Prop) k p k' q, vBin .shl (.n k p) (.n k' q) K = (0 ≤ q ∧ K (.n k (k.wrap (p * 2 ^ (min q.toNat k.bits)))))) ∧
    (∀ (K : V → Prop) k p k' q, vBin .shr (.n k p) (.n k' q) K = (0 ≤ q ∧ K (.n k (p.fdiv (2 ^ (min q.toNat k.bits)))))) ∧
    (∀ (K : V → Prop) k p k' q, vBin .and (.n k p) (.n k' q) K = (k = k' ∧ K (.n k (k.wrap (BitVec.ofInt k.bits p &&& BitVec.ofInt k.bits q).toNat)))) ∧
    (∀ (K : V → Prop) k p k' q, vBin .or (.n k p) (.n k' q) K = (k = k' ∧ K (.n k (k.wrap (BitVec.ofInt k.bits p ||| BitVec.ofInt k.bits q).toNat)))) ∧
    (∀ (K : V → Prop) k p k' q, vBin .xor (.n k p) (.n k' q) K = (k = k' ∧ K (.n k (k.wrap (BitVec.ofInt k.bits p ^^^ BitVec.ofInt k.bits q).toNat)))) ∧
    (∀ (K : V → Prop) p q, vBin .add (.s p) (.s q) K = (p.length + q.length ≤ 9223372036854775807 ∧ K (.s (p ++ q)))) ∧
    (∀ (K : V → Prop) p q, vBin .eql (.s p) (.s q) K = K (.b (decide (p = q)))) ∧
    (∀ (K : V → Prop) p q, vBin .neq (.s p) (.s q) K = K (.b (decide (p ≠ q)))) ∧
    (∀ (K : V → Prop) p q, vBin .lss (.s p) (.s q) K = K (.b (lt' p q))) ∧
    (∀ (K : V → Prop) p q, vBin .leq (.s p) (.s q) K = K (.b (lt' p q || decide (p = q)))) ∧
    (∀ (K : V → Prop) p q, vBin .geq (.s p) (.s q) K = K (.b (!lt' p q))) ∧
    (∀ (K : V → Prop) p, vUn .not (.b p) K = K (.b (!p))) ∧
    (∀ (K : V → Prop) k p, vUn .neg (.n k p) K = K (.n k (k.wrap (0 - p)))) ∧
    (∀ (K : V → Prop) x y, vPick (.b true) x y K = K x) ∧
    (∀ (K : V → Prop) x y, vPick (.b false) x y K = K y) ∧
    (∀ (K : V → Prop) c p q, vPick (.b c) (.b p) (.b q) K = K (.b (bif c then p else q))) ∧
    (∀ (K : V → Prop) l i, vExt (.tp l) i K = (i < l.length ∧ K (l.getD i .j))) ∧
    (∀ (K : V → Prop) P T k p k' q, vMin P T (.n k p) (.n k' q) K = ((k = k' ∧ ik P T = some k) ∧ K (.n k (min p q)))) :=
  ⟨by intros; rfl, by intros; rfl, by intros; rfl, by intros; rfl, by intros; rfl, by intros; rfl, by intros; rfl, by intros; rfl, by intros; rfl, by intros; rfl, by intros; rfl, by intros; rfl, by intros; rfl, by intros; rfl, by intros; rfl, by intros; rfl, by intros; rfl, by intros; rfl, by intros; rfl, by intros; rfl, by intros; rfl, by intros; rfl, by intros; rfl, by intros; rfl, by intro K x y; cases x <;> cases y <;> rfl, by intro K x y; cases x <;> cases y <;> rfl, by intros; rfl, by intros; rfl, by intros; rfl⟩
/-- Values that types tell of. -/
theorem et : (∀ (K : V → Prop) (T : TypeId) (T' : TypeId) (P : Program) l, vConv P T T' (.s l) K = ((strT P T' = true ∧ (P.underlying T).isSome = true) ∧ K (.s l))) ∧
    (∀ (K : V → Prop) (T : TypeId) (P : Program) l k i, vIndex P T (.s l) (.n k i) K = ((strT P T = true ∧ 0 ≤ i ∧ i < l.length) ∧ K (.n .u8 ((by' l i.toNat : Nat) : Int)))) ∧
    (∀ (K : V → Prop) (T : TypeId) (P : Program) l, vLen P T (.s l) K = (strT P T = true ∧ K (.n .i64 ((l.length : Nat) : Int)))) ∧
    (∀ (K : V → Prop) (T : TypeId) (P : Program) (z : Nat) (α : Type) (d : α) (l : List α) (e : α → V), vLen P T (.sl z α d l e) K = ((sle P T).isSome = true ∧ K (.n .i64 ((l.length : Nat) : Int)))) ∧
    (∀ (K : V → Prop) (T : TypeId) (P : Program) q n, vLen P T (.ow q n) K = ((sle P T).isSome = true ∧ K (.n .i64 ((n : Nat) : Int)))) ∧
    (∀ (K : V → Prop) (T : TypeId) (P : Program), vLen P T .nl K = ((sle P T).isSome = true ∧ K (.n .i64 0))) ∧
    (∀ (K : V → Prop) (T : TypeId) (P : Program) l k i k' q, vCut P T (.s l) (some (.n k i)) (some (.n k' q)) K = ((strT P T = true ∧ 0 ≤ i ∧ i ≤ q ∧ q ≤ l.length) ∧ K (.s ((l.take q.toNat).drop i.toNat)))) ∧
    (∀ (K : V → Prop) (T : TypeId) (P : Program) l k' q, vCut P T (.s l) none (some (.n k' q)) K = ((strT P T = true ∧ 0 ≤ q ∧ q ≤ l.length) ∧ K (.s (l.take q.toNat)))) ∧
    (∀ (K : V → Prop) (T : TypeId) (P : Program) l k i, vCut P T (.s l) (some (.n k i)) none K = ((strT P T = true ∧ 0 ≤ i ∧ i ≤ l.length) ∧ K (.s (l.drop i.toNat)))) ∧
    (∀ (K : V → Prop) (T : TypeId) (P : Program) (z : Nat) (α : Type) (d : α) (l : List α) (e : α → V) k i k' q, vCut P T (.sl z α d l e) (some (.n k i)) (some (.n k' q)) K = (((sle P T).bind (sz P) = some z ∧ 0 ≤ i ∧ i ≤ q ∧ q ≤ l.length) ∧ K (.sl z α d ((l.take q.toNat).drop i.toNat) e))) ∧
    (∀ (K : V → Prop) (T : TypeId) (P : Program) (z : Nat) (α : Type) (d : α) (l : List α) (e : α → V) k' q, vCut P T (.sl z α d l e) none (some (.n k' q)) K = (((sle P T).bind (sz P) = some z ∧ 0 ≤ q ∧ q ≤ l.length) ∧ K (.sl z α d (l.take q.toNat) e))) ∧
    (∀ (K : V → Prop) (T : TypeId) (P : Program) (z : Nat) (α : Type) (d : α) (l : List α) (e : α → V) k i, vCut P T (.sl z α d l e) (some (.n k i)) none K = (((sle P T).bind (sz P) = some z ∧ 0 ≤ i ∧ i ≤ l.length) ∧ K (.sl z α d (l.drop i.toNat) e))) :=
  ⟨by intros; rfl, by intros; rfl, by intros; rfl, by intros; rfl, by intros; rfl, by intros; rfl, by intros; rfl, by intros; rfl, by intros; rfl, by intros; rfl, by intros; rfl, by intros; rfl⟩
end Go.Proofs.YtikmkgoeepgbkaaGreatDoor.Ev
namespace Go.Proofs.YtikmkgoeepgbkaaGreatDoor.Ev
open Go.RowKit
open Go.Proofs.YtikmkgoeepgbkaaGreatDoor.Mem
set_option linter.unusedVariables false
universe u
def allP {α : Type u} (p : α → Prop) : List α → Prop
  | [] => True
  | x :: l => p x ∧ allP p l
theorem allP_mem {α : Type u} {p : α → Prop} : ∀ {l : List α}, allP p l → ∀ x ∈ l, p x
  | x :: l, h, y, hy => by
    rcases List.mem_cons.1 hy with rfl | hy
    · exact h.1
    · exact allP_mem h.2 y hy
theorem lookup_mem {α : Type u} : ∀ {l : List (Nat × α)} {t : Nat} {v : α}, l.lookup t = some v → (t, v) ∈ l
  | (k, b) :: l, t, v, h => by
    rw [List.lookup_cons] at h
    cases e : t == k with
    | true =>
      rw [e] at h
      obtain rfl := Option.some.inj h
      rw [beq_iff_eq.1 e]
      simp
    | false =>
      rw [e] at h
      exact List.mem_cons_of_mem _ (lookup_mem h)
def lk {α : Type u} (t : Nat) : List (Nat × α) → Option α
  | [] => none
  | (k, v) :: l => if t = k then some v else lk t l
theorem lk_eq {α : Type u} (t : Nat) : ∀ l : List (Nat × α), l.lookup t = lk t l
  | [] => rfl
  | (k, v) :: l => by
    rw [List.lookup_cons, lk, lk_eq t l]
    by_cases e : t = k
    · rw [if_pos e, beq_iff_eq.2 e]
    · rw [if_neg e, beq_eq_false_iff_ne.2 e]
def inL (t : Nat) : List Nat → Bool
  | [] => false
  | k :: l => decide (t = k) || inL t l
theorem inL_eq (t : Nat) : ∀ l : List Nat, l.contains t = inL t l
  | [] => rfl
  | k :: l => by rw [List.contains_cons, inL, inL_eq t l]; congr 1
def bkM (al : Nat → Bool) : Bk → Bool
  | .cells _ l => inML al l
  | _ => true
def keepK (σ τ : St) (al : Nat → Bool) (i : Nat) : Prop := σ.bk i = τ.bk i ∧ match τ.bk i with
  | some b => bkM al b = true
  | none => True
theorem bkM_men {al : Nat → Bool} {b : Bk} (h : bkM al b = true) (k : Nat) (hk : b.men k = true) : al k = true := by
  cases b with
  | cells T l => exact inML_men l k h hk
  | row => cases hk
  | itr => cases hk
theorem fits_of {σ τ : St} {ks kb : List Nat} {vs : List (Nat × V)} {bs : List (Nat × Bk)} {ρ0 : Nat → Nat}
    (h1 : allP (fun t => lk t vs = none → σ.sl t = τ.sl t ∧ inM (fun i => inL i kb && !(lk i bs).isSome) (τ.sl t) = true) ks)
    (h2 : allP (fun p => σ.sl p.1 = rnV (fxr ρ0) p.2 ∧ inM (fun i => inL i kb || (lk i bs).isSome) p.2 = true) vs)
    (h3 : allP (fun i => lk i bs = none → keepK σ τ (fun k => inL k kb && !(lk k bs).isSome) i ∧ (fxr ρ0) i = i) kb)
    (h4 : allP (fun p => σ.bk ((fxr ρ0) p.1) = some (rnB (fxr ρ0) p.2) ∧ bkM (fun k => inL k kb || (lk k bs).isSome) p.2 = true) bs)
    (h5 : allP (fun i => allP (fun j => (fxr ρ0) i = (fxr ρ0) j → i = j) (kb ++ bs.map (·.1))) (kb ++ bs.map (·.1))) : Fits σ τ ks kb vs bs (fxr ρ0) := by
  have no : ∀ {α : Type 1} {l : List (Nat × α)} {t : Nat}, (l.lookup t).isSome = false → lk t l = none := fun {α l t} h => by
    rw [lk_eq] at h
    cases e : lk t l with
    | none => rfl
    | some v => rw [e] at h; cases h
  have hin : ∀ i, (kb.contains i || (bs.lookup i).isSome) = true → i ∈ kb ++ bs.map (·.1) := fun i h => by
    rcases Bool.or_eq_true _ _ ▸ h with h | h
    · exact List.mem_append_left _ (by simpa using h)
    · obtain ⟨b, hb⟩ := Option.isSome_iff_exists.1 h
      exact List.mem_append_right _ (List.mem_map.2 ⟨_, lookup_mem hb, rfl⟩)
  have e1 : (fun i => kb.contains i && !(bs.lookup i).isSome) = fun i => inL i kb && !(lk i bs).isSome := funext fun i => by rw [inL_eq, lk_eq]
  have e2 : (fun i => kb.contains i || (bs.lookup i).isSome) = fun i => inL i kb || (lk i bs).isSome := funext fun i => by rw [inL_eq, lk_eq]
  refine ⟨fun t ht hv => (allP_mem h1 t ht (no hv)).1, fun t v hv => (allP_mem h2 _ (lookup_mem hv)).1, fun i hi hb => (allP_mem h3 i hi (no hb)).1.1, fun i b hb => (allP_mem h4 _ (lookup_mem hb)).1, fun i hi hb => (allP_mem h3 i (by simpa using hi) (no hb)).2,
    fun i j hi hj e => allP_mem (allP_mem h5 i (hin i hi)) j (hin j hj) e, fun t ht hv => by rw [e1]; exact (allP_mem h1 t ht (no hv)).2, fun t v hv => by rw [e2]; exact (allP_mem h2 _ (lookup_mem hv)).2, fun i b hb k hk => ?_, fun i hi => by unfold fxr; rw [decide_eq_true hi]; rfl, fun i hi hb b hbk k hk => ?_⟩
  · have := bkM_men (allP_mem h4 _ (lookup_mem hb)).2 k hk
    rw [inL_eq, lk_eq]
    exact this
  · have := (allP_mem h3 i hi (no hb)).1.2
    rw [hbk] at this
    have := bkM_men this k hk
    rw [inL_eq, lk_eq]
    exact this
theorem eh1 : (∀ {α : Type u} (p : α → Prop), allP p [] = True) ∧ (∀ {α : Type u} (p : α → Prop) (x : α) (l : List α), allP p (x :: l) = (p x ∧ allP p l)) ∧ (∀ {α : Type u} (t : Nat), lk t ([] : List (Nat × α)) = none) ∧ (∀ {α : Type u} (t k : Nat) (v : α) (l : List (Nat × α)), lk t ((k, v) :: l) = if t = k then some v else lk t l) :=
  ⟨fun _ => rfl, fun _ _ _ => rfl, fun _ => rfl, fun _ _ _ _ => rfl⟩
/-- Heads. -/
theorem eh : (∀ t : Nat, inL t [] = false) ∧ (∀ (t k : Nat) (l : List Nat), inL t (k :: l) = (decide (t = k) || inL t l)) ∧ (∀ (σ : St) (ks kb : List Nat) (vs : List (Nat × V)) (bs : List (Nat × Bk)) (t : Nat), (hd σ ks kb vs bs).sl t = match lk t vs with
      | some v => v
      | none => bif inL t ks then σ.sl t else .j) ∧ (∀ (σ : St) (ks kb : List Nat) (vs : List (Nat × V)) (bs : List (Nat × Bk)) (i : Nat), (hd σ ks kb vs bs).bk i = match lk i bs with
      | some b => some b
      | none => bif inL i kb then σ.bk i else none) ∧ (∀ (σ : St) (ks kb : List Nat) (vs : List (Nat × V)) (bs : List (Nat × Bk)) (i : Nat), (hd σ ks kb vs bs).al i = (inL i kb || (lk i bs).isSome)) ∧ (∀ (ρ : Nat → Nat) i, fxr ρ i = bif decide (1000000000 ≤ i) then i else ρ i) :=
  ⟨fun _ => rfl, fun _ _ _ => rfl, fun _ _ _ _ _ _ => by simp only [hd, lk_eq, inL_eq] <;> rfl, fun _ _ _ _ _ _ => by simp only [hd, lk_eq, inL_eq] <;> rfl, fun _ _ _ _ _ _ => by simp only [hd, lk_eq, inL_eq] <;> rfl, fun _ _ => rfl⟩
/-- Names of blocks. -/
theorem en : (∀ al, inM al .j = true) ∧ (∀ al x, inM al (.b x) = true) ∧ (∀ al k x, inM al (.n k x) = true) ∧ (∀ al l, inM al (.s l) = true) ∧ (∀ al, inM al .nl = true) ∧ (∀ al (z : Nat) (α : Type) (d : α) (l : List α) (e : α → V), inM al (.sl z α d l e) = true) ∧ (∀ al v, inM al (.px v) = true) ∧ (∀ al l, inM al (.ag l) = inML al l) ∧ (∀ al l, inM al (.tp l) = inML al l) ∧
    (∀ al i o, inM al (.p i o) = al i) ∧ (∀ al, inM al .pn = true) ∧ (∀ al i o, inM al (.ow i o) = al i) ∧ (∀ al, inML al [] = true) ∧ (∀ al v l, inML al (v :: l) = (inM al v && inML al l)) ∧ (∀ ρ, rnV ρ .j = .j) ∧ (∀ ρ x, rnV ρ (.b x) = .b x) ∧ (∀ ρ k x, rnV ρ (.n k x) = .n k x) ∧ (∀ ρ l, rnV ρ (.s l) = .s l) ∧ (∀ ρ, rnV ρ .nl = .nl) ∧
    (∀ ρ (z : Nat) (α : Type) (d : α) (l : List α) (e : α → V), rnV ρ (.sl z α d l e) = .sl z α d l e) ∧ (∀ ρ v, rnV ρ (.px v) = .px v) ∧ (∀ ρ l, rnV ρ (.ag l) = .ag (rnL ρ l)) ∧ (∀ ρ l, rnV ρ (.tp l) = .tp (rnL ρ l)) ∧ (∀ ρ i o, rnV ρ (.p i o) = .p (ρ i) o) ∧ (∀ ρ, rnV ρ .pn = .pn) ∧ (∀ ρ i n, rnV ρ (.ow i n) = .ow (ρ i) n) ∧ (∀ ρ, rnL ρ [] = []) ∧ (∀ ρ v l, rnL ρ (v :: l) = rnV ρ v :: rnL ρ l) ∧
    (∀ al T l, bkM al (.cells T l) = inML al l) ∧ (∀ al T z (α : Type) (d : α) (l : List α) (e : α → V) (c : V → α), bkM al (.row T z α d l e c) = true) ∧ (∀ ρ T l, rnB ρ (.cells T l) = .cells T (rnL ρ l)) ∧ (∀ ρ T z (α : Type) (d : α) (l : List α) (e : α → V) (c : V → α), rnB ρ (.row T z α d l e c) = .row T z α d l e c) ∧
    (∀ σ τ al i, keepK σ τ al i = (σ.bk i = τ.bk i ∧ match τ.bk i with
      | some b => bkM al b = true
      | none => True)) := by
  refine ⟨?_, ?_, ?_, ?_, ?_, ?_, ?_, ?_, ?_, ?_, ?_, ?_, ?_, ?_, ?_, ?_, ?_, ?_, ?_, ?_, ?_, ?_, ?_, ?_, ?_, ?_, ?_, ?_, ?_, ?_, ?_, ?_, ?_⟩ <;> intros <;> rfl
theorem cnd_i {x : Bool} {A B : St → Prop} {σ : St} (h1 : x = true → A σ) (h2 : x = false → B σ) : cnd (.b x) A B σ := ⟨h1, h2⟩
theorem gsp_i {x : Bool} {g : Nat} {w : Bool} {A B : St → Prop} {σ : St} (h1 : x = w → A (σ.put g (.b w))) (h2 : x = !w → B (σ.put g (.b (!w)))) : gsp (.b x) g w A B σ := ⟨h1, h2⟩
theorem cnd_d {p : Prop} [Decidable p] {A B : St → Prop} {σ : St} (h1 : p → A σ) (h2 : ¬ p → B σ) : cnd (.b (decide p)) A B σ := ⟨fun h => h1 (of_decide_eq_true h), fun h => h2 (of_decide_eq_false h)⟩
theorem gsp_t {p : Prop} [Decidable p] {g : Nat} {A B : St → Prop} {σ : St} (h1 : p → A (σ.put g (.b true))) (h2 : ¬ p → B (σ.put g (.b false))) : gsp (.b (decide p)) g true A B σ := ⟨fun h => h1 (of_decide_eq_true h), fun h => h2 (of_decide_eq_false h)⟩
theorem gsp_f {p : Prop} [Decidable p] {g : Nat} {A B : St → Prop} {σ : St} (h1 : ¬ p → A (σ.put g (.b false))) (h2 : p → B (σ.put g (.b true))) : gsp (.b (decide p)) g false A B σ := ⟨fun h => h1 (of_decide_eq_false h), fun h => h2 (of_decide_eq_true h)⟩
end Go.Proofs.YtikmkgoeepgbkaaGreatDoor.Ev
namespace Go.Proofs.YtikmkgoeepgbkaaGreatDoor.Ev
open Go.RowKit
open Go.Proofs.YtikmkgoeepgbkaaGreatDoor.Mem
set_option linter.unusedVariables false
universe u
section
variable {P : Program} {bk : Nat → Option Bk} {K : V → Prop} {T T' d : Nat} {σ : St} {k : St → Prop} {E : Nat → Option Elp}
theorem ex_some {α : Type u} {o : Option α} {p : α → Prop} : (∃ a, o = some a ∧ p a) = (match o with
    | some a => p a
    | none => False) := by
  cases o with
  | none => exact propext ⟨fun ⟨_, h, _⟩ => (by cases h), fun h => h.elim⟩
  | some a => exact propext ⟨fun ⟨_, h, hp⟩ => Option.some.inj h ▸ hp, fun h => ⟨a, rfl, h⟩⟩
theorem et1 : (∀ P T T' K k p, vConv P T T' (.n k p) K = match ik P T' with
      | some k => (P.underlying T).isSome = true ∧ K (.n k (k.wrap p))
      | none => ((ik P T).isSome = true ∧ strT P T' = true) ∧ K (.s (rune1 p))) ∧
    (∀ P T K l i, vField P T (.ag l) i K = match fld P T i with
      | some r => (r.1 + r.2.2 ≤ l.length ∧ (r.2.1 = false → r.2.2 = 1)) ∧ K (partV r.2.1 r.2.2 r.1 l)
      | none => False) ∧
    (∀ P T bk K (z : Nat) (α : Type) (d : α) (l : List α) (e : α → V) k i, vIxA P T bk (.sl z α d l e) (.n k i) K = match sle P T with
      | some t => sz P t = some z ∧ (0 ≤ i ∧ i < l.length) ∧ K (.px (e (l.getD i.toNat d)))
      | none => False) ∧
    (∀ P T bk K q n k i, vIxA P T bk (.ow q n) (.n k i) K = match bk q with
      | some (.row _ z _ _ l _ _) => (match sle P T with
        | some t => sz P t = some z ∧ (n = l.length ∧ 0 ≤ i ∧ i < l.length) ∧ K (.pe q z i.toNat 0)
        | none => False)
      | _ => False) ∧
    (∀ P T K q o i, vFldA P T (.p q o) i K = match fld P T i with
      | some r => r.2.2 ≠ 0 ∧ K (.p q (o + r.1))
      | none => False) ∧
    (∀ P T K q s j o i, vFldA P T (.pe q s j o) i K = match fld P T i with
      | some r => r.2.2 ≠ 0 ∧ K (.pe q s j (o + r.1))
      | none => False) ∧
    (∀ P T K l i, vFldA P T (.px (.ag l)) i K = match fld P T i with
      | some r => (r.2.2 ≠ 0 ∧ r.1 + r.2.2 ≤ l.length ∧ (r.2.1 = false → r.2.2 = 1)) ∧ (∀ l', partV r.2.1 r.2.2 r.1 l = .ag l' → r.2.1 = true) ∧ K (.px (partV r.2.1 r.2.2 r.1 l))
      | none => False) ∧
    (∀ P T bk K v, vLoad P T bk (.px v) K = ((P.underlying T).isSome = true ∧ match sz P T with
      | some z => fits (agT P T) z v ∧ K v
      | none => False)) ∧
    (∀ P T bk K q off, vLoad P T bk (.p q off) K = match bk q with
      | some (.cells _ l) => (P.underlying T).isSome = true ∧ (match sz P T with
        | some z => (off + z ≤ l.length ∧ (agT P T = false → z = 1)) ∧ K (partV (agT P T) z off l)
        | none => False)
      | _ => False) ∧
    (∀ P T bk K q s j off, vLoad P T bk (.pe q s j off) K = match bk q with
      | some (.row _ s' _ d l e _) => (P.underlying T).isSome = true ∧ (match sz P T with
        | some z => (s = s' ∧ j < l.length ∧ off + z ≤ s ∧ (agT P T = false → z = 1)) ∧ K (partV (agT P T) z off (cs (e (l.getD j d))))
        | none => False)
      | _ => False) ∧
    (∀ P T bk K q off k i, vIxA P T bk (.p q off) (.n k i) K = match arT P T with
      | some r => (match sz P r.2 with
        | some z => (0 ≤ i ∧ i < r.1 ∧ z ≠ 0) ∧ K (.p q (off + i.toNat * z))
        | none => False)
      | none => False) ∧
    (∀ P T bk K q off k i, vIxA P T bk (.gl q off) (.n k i) K = match arT P T with
      | some r => (match sz P r.2 with
        | some z => (0 ≤ i ∧ i < r.1 ∧ z ≠ 0) ∧ K (.gl q (off + i.toNat * z))
        | none => False)
      | none => False) ∧
    (∀ P L T bk K v, vLoadG P L T bk (.px v) K = vLoad P T bk (.px v) K) ∧ (∀ P L T bk K q off, vLoadG P L T bk (.p q off) K = vLoad P T bk (.p q off) K) ∧ (∀ P L T bk K q s j off, vLoadG P L T bk (.pe q s j off) K = vLoad P T bk (.pe q s j off) K) := by
  refine ⟨?_, ?_, ?_, ?_, ?_, ?_, ?_, ?_, ?_, ?_, ?_, ?_, ?_, ?_, ?_⟩ <;> intros
  · rename_i P T T' K k p
    simp only [vConv]
    cases h : ik P T' with
    | none => exact propext ⟨fun h => h.elim (fun ⟨_, e, _⟩ => by cases e) (fun ⟨⟨_, h1⟩, h2⟩ => ⟨h1, h2⟩), fun ⟨h1, h2⟩ => .inr ⟨⟨rfl, h1⟩, h2⟩⟩
    | some k => exact propext ⟨fun h => h.elim (fun ⟨_, e, h⟩ => by cases e; exact h) (fun ⟨⟨e, _⟩, _⟩ => by cases e), fun h => .inl ⟨_, rfl, h⟩⟩
  · rename_i P T K l i
    simp only [vField]
    cases h : fld P T i with
    | none => simp
    | some r => obtain ⟨a, b, c⟩ := r; exact propext ⟨fun ⟨_, _, _, e, h⟩ => by cases e; exact h, fun h => ⟨_, _, _, rfl, h⟩⟩
  · rename_i P T bk K z α d l e k i
    simp only [vIxA]
    cases h : sle P T with
    | none => simp
    | some t => exact propext ⟨fun ⟨⟨_, e, h⟩, h2⟩ => by cases e; exact ⟨h, h2⟩, fun ⟨h, h2⟩ => ⟨⟨_, rfl, h⟩, h2⟩⟩
  · rename_i P T bk K q n k i
    simp only [vIxA]
    cases bk q with
    | none => rfl
    | some b =>
      cases b with
      | cells => rfl
      | itr => rfl
      | row _ z _ _ l _ _ =>
        cases h : sle P T with
        | none => simp
        | some t => exact propext ⟨fun ⟨⟨_, e, h⟩, h2⟩ => by cases e; exact ⟨h, h2⟩, fun ⟨h, h2⟩ => ⟨⟨_, rfl, h⟩, h2⟩⟩
  · rename_i P T K q o i
    simp only [vFldA]
    cases h : fld P T i with
    | none => simp
    | some r => obtain ⟨a, b, c⟩ := r; exact propext ⟨fun ⟨_, _, _, ⟨e, h⟩, h2⟩ => by cases e; exact ⟨h, h2⟩, fun ⟨h, h2⟩ => ⟨_, _, _, ⟨rfl, h⟩, h2⟩⟩
  · rename_i P T K q s j o i
    simp only [vFldA]
    cases h : fld P T i with
    | none => simp
    | some r => obtain ⟨a, b, c⟩ := r; exact propext ⟨fun ⟨_, _, _, ⟨e, h⟩, h2⟩ => by cases e; exact ⟨h, h2⟩, fun ⟨h, h2⟩ => ⟨_, _, _, ⟨rfl, h⟩, h2⟩⟩
  · rename_i P T K l i
    simp only [vFldA]
    cases h : fld P T i with
    | none => simp
    | some r => obtain ⟨a, b, c⟩ := r; exact propext ⟨fun ⟨_, _, _, e, h⟩ => by cases e; exact h, fun h => ⟨_, _, _, rfl, h⟩⟩
  · rename_i P T bk K v
    simp only [vLoad]
    cases h : sz P T with
    | none => simp
    | some z => exact propext ⟨fun ⟨⟨_, a, e, h⟩, h2⟩ => by cases e; exact ⟨a, h, h2⟩, fun ⟨a, h, h2⟩ => ⟨⟨_, a, rfl, h⟩, h2⟩⟩
  · rename_i P T bk K q off
    simp only [vLoad]
    cases bk q with
    | none => rfl
    | some b =>
      cases b with
      | row => rfl
      | itr => rfl
      | cells _ l =>
        cases h : sz P T with
        | none => simp
        | some z => exact propext ⟨fun ⟨_, ⟨a, e⟩, h⟩ => by cases e; exact ⟨a, h⟩, fun ⟨a, h⟩ => ⟨_, ⟨a, rfl⟩, h⟩⟩
  · rename_i P T bk K q s j off
    simp only [vLoad]
    cases bk q with
    | none => rfl
    | some b =>
      cases b with
      | cells => rfl
      | itr => rfl
      | row _ s' _ d l e _ =>
        cases h : sz P T with
        | none => simp
        | some z => exact propext ⟨fun ⟨_, ⟨a, e⟩, h⟩ => by cases e; exact ⟨a, h⟩, fun ⟨a, h⟩ => ⟨_, ⟨a, rfl⟩, h⟩⟩
  · rename_i P T bk K q off k i
    simp only [vIxA]
    cases h : arT P T with
    | none => simp
    | some r =>
      obtain ⟨n, t⟩ := r
      dsimp only
      cases h2 : sz P t with
      | none =>
        refine propext ⟨fun h => ?_, fun h => h.elim⟩
        obtain ⟨_, _, _, ⟨e, e2⟩, _⟩ := h
        cases e
        rw [h2] at e2
        cases e2
      | some z =>
        refine propext ⟨fun h => ?_, fun h => ⟨_, _, _, ⟨rfl, h2⟩, h⟩⟩
        obtain ⟨_, _, _, ⟨e, e2⟩, h⟩ := h
        cases e
        rw [h2] at e2
        cases e2
        exact h
  · rename_i P T bk K q off k i
    simp only [vIxA]
    cases h : arT P T with
    | none => simp
    | some r =>
      obtain ⟨n, t⟩ := r
      dsimp only
      cases h2 : sz P t with
      | none =>
        refine propext ⟨fun h => ?_, fun h => h.elim⟩
        obtain ⟨_, _, _, ⟨e, e2⟩, _⟩ := h
        cases e
        rw [h2] at e2
        cases e2
      | some z =>
        refine propext ⟨fun h => ?_, fun h => ⟨_, _, _, ⟨rfl, h2⟩, h⟩⟩
        obtain ⟨_, _, _, ⟨e, e2⟩, h⟩ := h
        cases e
        rw [h2] at e2
        cases e2
        exact h
  · rfl
  · rfl
  · rfl
/-- Memory. -/
theorem em : (∀ P T d σ k, xAlloc P T d σ k = match zc P T with
      | some l => σ.al d = false ∧ k (σ.nw d (.p d 0) none (.cells T l))
      | none => False) ∧
    (∀ T d x σ k, xBox T d x σ k = ((x ≠ .j ∧ σ.al d = false) ∧ k (σ.nw d (.p d 0) none (.cells T (cs x))))) ∧
    (∀ P T x σ k i off, xStore P T (.p i off) x σ k = match σ.bk i with
      | some (.cells T1 l) => (sz P T = some (cs x).length ∧ off + (cs x).length ≤ l.length ∧ (cs x).all oneV = true) ∧ k (σ.setB i (.cells T1 (putV l off x)))
      | _ => False) ∧
    (∀ P T x σ k q s i off, xStore P T (.pe q s i off) x σ k = match σ.bk q with
      | some (.row T1 z α d l e c) => (sz P T = some (cs x).length ∧ s = z ∧ i < l.length ∧ off + (cs x).length ≤ z ∧ okE z e c (whV z off (e (l.getD i d)) x)) ∧ k (σ.setB q (.row T1 z α d (l.set i (c (whV z off (e (l.getD i d)) x))) e c))
      | _ => False) ∧
    (∀ z off old x, whV z off old x = if off = 0 ∧ (cs x).length = z then x else .ag (putV (cs old) off x)) ∧
    (∀ P E T d σ k k1 p k2 q, xMake P E T d (.n k1 p) (.n k2 q) σ k = match sle P T with
      | some t => (match E t with
        | some h => (match bys P t with
          | some b => (zc P t = some (cs (h.e h.d)) ∧ sz P t = some h.z) ∧ okE h.z h.e h.c (h.e h.d) ∧ ((p = q ∨ p = 0) ∧ 0 ≤ q ∧ (b : Int) * q ≤ 281474976710656 ∧ q ≤ 9223372036854775807 ∧ 0 < h.z) ∧ σ.al d = false ∧ k (σ.nw d (.ow d p.toNat) none (.row t h.z h.α h.d (List.replicate p.toNat h.d) h.e h.c))
          | none => False)
        | none => False)
      | none => False) ∧
    (∀ P E T d n l σ k, xLit P E T d n l σ k = match sle P T with
      | some t => (match E t with
        | some h => (match zc P t with
          | some zl => (sz P t = some h.z ∧ zl.length = h.z) ∧ (n = l.length ∧ n * h.z ≤ 16777216 ∧ 0 < h.z) ∧ allP (okE h.z h.e h.c) l ∧ σ.al d = false ∧ k (σ.nw d (.ow d n) none (.row t h.z h.α h.d (l.map h.c) h.e h.c))
          | none => False)
        | none => False)
      | none => False) ∧
    (∀ P T T' bk s K (z : Nat) (α : Type) (d : α) (l : List α) (e : α → V), vSrcG P T T' bk s (.sl z α d l e) K = (T = T' ∧ K z α l e)) ∧
    (∀ P T T' bk s K i n, vSrcG P T T' bk s (.ow i n) K = (T = T' ∧ match bk i with
      | some (.row _ z α _ l e _) => n = l.length ∧ K z α l e
      | _ => False)) ∧
    (∀ P T T' bk s K l, vSrcG P T T' bk s (.s l) K = (((strT P T' = true ∧ match sle P T with
      | some t => bys P t = some 1 ∧ sz P t = some 1 ∧ zi P t = some (.int .u8 0)
      | none => False) ∧ lenV s + l.length ≤ 140737488355328) ∧ K 1 UInt8 l eB)) ∧
    (∀ i n, lenV (.ow i n) = n) ∧ (lenV .nl = 0) ∧
    (∀ bk K (z : Nat) (α : Type) (d : α) (l : List α) (e : α → V), vSrc bk (.sl z α d l e) K = K z α l e) ∧
    (∀ bk K i n, vSrc bk (.ow i n) K = match bk i with
      | some (.row _ z α _ l e _) => n = l.length ∧ K z α l e
      | _ => False) ∧
    (∀ P E T d σ k (z2 : Nat) (α2 : Type) (l2 : List α2) (e2 : α2 → V), appK P E T d .nl σ k z2 α2 l2 e2 = match sle P T with
      | some t => (match E t with
        | some h => (match bys P t with
          | some b => (match zc P t with
            | some zl => (sz P t = some h.z ∧ zl.length = h.z ∧ b ≤ 4096 ∧ l2.length * b ≤ 180000000000000) ∧ (z2 = h.z ∧ 0 < h.z ∧ l2.length ≤ 9223372036854775807) ∧
              (∀ v ∈ l2, okE h.z h.e h.c (e2 v)) ∧ σ.al d = false ∧ k (σ.nw d (.ow d l2.length) none (.row t h.z h.α h.d (l2.map fun v => h.c (e2 v)) h.e h.c))
            | none => False)
          | none => False)
        | none => False)
      | none => False) ∧
    (∀ P E T d σ k i n (z2 : Nat) (α2 : Type) (l2 : List α2) (e2 : α2 → V), appK P E T d (.ow i n) σ k z2 α2 l2 e2 = match σ.bk i with
      | some (.row t z α d0 l e c) => (match bys P t with
        | some b => (match zc P t with
          | some zl => (sle P T = some t ∧ sz P t = some z ∧ zl.length = z ∧ b ≤ 4096 ∧ (l.length + l2.length) * b ≤ 180000000000000) ∧ (z2 = z ∧ 0 < z ∧ n = l.length ∧ l.length + l2.length ≤ 9223372036854775807) ∧
            (∀ v ∈ l2, okE z e c (e2 v)) ∧ σ.al d = false ∧ k (σ.nw d (.ow d (l.length + l2.length)) (some i) (.row t z α d0 (l ++ l2.map fun v => c (e2 v)) e c))
          | none => False)
        | none => False)
      | _ => False) := by
  refine ⟨?_, fun _ _ _ _ _ => rfl, fun _ _ _ _ _ _ _ => rfl, fun _ _ _ _ _ _ _ _ _ => rfl, fun _ _ _ _ => rfl, ?_, ?_, by intros; rfl, by intros; rfl, by intros; rfl, by intros; rfl, by intros; rfl, fun _ _ _ _ _ _ _ => rfl, fun _ _ _ _ => rfl, ?_, ?_⟩ <;> intros
  · rename_i P T d σ k
    simp only [xAlloc, ex_some]
    cases zc P T <;> rfl
  · rename_i P E T d σ k k1 p k2 q
    simp only [xMake]
    refine propext ⟨fun ⟨t, h, b, ⟨h1, h2, h3, h4, h5⟩, h6⟩ => ?_, fun h => ?_⟩
    · simp only [h1, h2, h3]
      exact ⟨⟨h4, h5⟩, h6⟩
    · split at h
      · rename_i t h1
        split at h
        · rename_i e h2
          split at h
          · rename_i b h3
            exact ⟨t, e, b, ⟨h1, h2, h3, h.1.1, h.1.2⟩, h.2⟩
          · exact h.elim
        · exact h.elim
      · exact h.elim
  · rename_i P E T d n l σ k
    have key : ∀ (p : V → Prop) (l : List V), (∀ v ∈ l, p v) ↔ allP p l := by
      intro p l
      refine ⟨fun h => ?_, fun h => allP_mem h⟩
      induction l with
      | nil => trivial
      | cons v l ih => exact ⟨h v (by simp), ih fun w hw => h w (by simp [hw])⟩
    simp only [xLit]
    refine propext ⟨fun ⟨t, h, zl, ⟨h1, h2, h3, h4, h5⟩, h6, h7, h8⟩ => ?_, fun h => ?_⟩
    · simp only [h1, h2, h4]
      exact ⟨⟨h3, h5⟩, h6, (key _ _).1 h7, h8⟩
    · split at h
      · rename_i t h1
        split at h
        · rename_i e h2
          split at h
          · rename_i zl h3
            exact ⟨t, e, zl, ⟨h1, h2, h.1.1, h3, h.1.2⟩, h.2.1, (key _ _).2 h.2.2.1, h.2.2.2⟩
          · exact h.elim
        · exact h.elim
      · exact h.elim
  · rename_i P E T d σ k z2 α2 l2 e2
    simp only [appK]
    refine propext ⟨fun ⟨t, h, b, zl, ⟨h1, h2, h3, h4, h5, h6, h7, h8⟩, h9⟩ => ?_, fun h => ?_⟩
    · simp only [h1, h2, h4, h5]
      exact ⟨⟨h3, h6, h7, h8⟩, h9⟩
    · split at h
      · rename_i t h1
        split at h
        · rename_i e h2
          split at h
          · rename_i b h3
            split at h
            · rename_i zl h4
              exact ⟨t, e, b, zl, ⟨h1, h2, h.1.1, h3, h4, h.1.2.1, h.1.2.2.1, h.1.2.2.2⟩, h.2⟩
            · exact h.elim
          · exact h.elim
        · exact h.elim
      · exact h.elim
  · rename_i P E T d σ k i n z2 α2 l2 e2
    simp only [appK]
    cases σ.bk i with
    | none => rfl
    | some b0 =>
      cases b0 with
      | cells => rfl
      | itr => rfl
      | row t z α d0 l e c =>
      dsimp only
      refine propext ⟨fun ⟨⟨b, zl, h1, h2, h3, h4, h5, h6, h7⟩, h8⟩ => ?_, fun h => ?_⟩
      · simp only [h3, h4]
        exact ⟨⟨h1, h2, h5, h6, h7⟩, h8⟩
      · split at h
        · rename_i b h3
          split at h
          · rename_i zl h4
            exact ⟨⟨b, zl, h.1.1, h.1.2.1, h3, h4, h.1.2.2.1, h.1.2.2.2.1, h.1.2.2.2.2⟩, h.2⟩
          · exact h.elim
        · exact h.elim
end
theorem emR : ∀ P E T d n l σ k, xLitR P E T d n l σ k = match sle P T with
      | some t => (match E t with
        | some h => (match zc P t with
          | some zl => (sz P t = some h.z ∧ zl.length = h.z) ∧ (n = l.length ∧ n * h.z ≤ 16777216 ∧ 0 < h.z) ∧ allP (okE h.z h.e h.c) l ∧ σ.al d = false ∧ k (σ.put d (.sl h.z h.α h.d (l.map h.c) h.e))
          | none => False)
        | none => False)
      | none => False := by
  intro P E T d n l σ k
  have key : ∀ (p : V → Prop) (l : List V), (∀ v ∈ l, p v) ↔ allP p l := by
    intro p l
    refine ⟨fun h => ?_, fun h => allP_mem h⟩
    induction l with
    | nil => trivial
    | cons v l ih => exact ⟨h v (by simp), ih fun w hw => h w (by simp [hw])⟩
  simp only [xLitR]
  refine propext ⟨fun ⟨t, h, zl, ⟨h1, h2, h3, h4, h5⟩, h6, h7, h8⟩ => ?_, fun h => ?_⟩
  · simp only [h1, h2, h4]
    exact ⟨⟨h3, h5⟩, h6, (key _ _).1 h7, h8⟩
  · split at h
    · rename_i t h1
      split at h
      · rename_i e h2
        split at h
        · rename_i zl h3
          exact ⟨t, e, zl, ⟨h1, h2, h.1.1, h3, h.1.2⟩, h.2.1, (key _ _).2 h.2.2.1, h.2.2.2⟩
        · exact h.elim
      · exact h.elim
    · exact h.elim
/-- Parts of cells; what a function hands back. -/
theorem ep : (∀ z off l, partV false z off l = l.getD off .j) ∧ (∀ z off l, partV true z off l = .ag ((l.drop off).take z)) ∧ (∀ l, cs (.ag l) = l) ∧ (∀ k x, cs (.n k x) = [.n k x]) ∧ (∀ x, cs (.b x) = [.b x]) ∧ (∀ l, cs (.s l) = [.s l]) ∧ cs .nl = [.nl] ∧
    (∀ (z : Nat) (α : Type) (d : α) (l : List α) (e : α → V), cs (.sl z α d l e) = [.sl z α d l e]) ∧ (∀ i n, cs (.ow i n) = [.ow i n]) ∧
    (∀ l, (V.ag l = .j) = False) ∧ (∀ k x, (V.n k x = .j) = False) ∧ (∀ x, (V.b x = .j) = False) ∧ (∀ l, (V.s l = .j) = False) ∧ (V.nl = .j) = False ∧ (∀ (z : Nat) (α : Type) (d : α) (l : List α) (e : α → V), (V.sl z α d l e = .j) = False) ∧ (∀ i n, (V.ow i n = .j) = False) ∧ (∀ i n, (V.p i n = .j) = False) :=
  ⟨fun _ _ _ => rfl, fun _ _ _ => rfl, fun _ => rfl, fun _ _ => rfl, fun _ => rfl, fun _ => rfl, rfl, fun _ _ _ _ _ => rfl, fun _ _ => rfl, fun _ => eq_false fun h => (by cases h), fun _ _ => eq_false fun h => (by cases h), fun _ => eq_false fun h => (by cases h), fun _ => eq_false fun h => (by cases h), eq_false fun h => (by cases h), fun _ _ _ _ _ => eq_false fun h => (by cases h), fun _ _ => eq_false fun h => (by cases h), fun _ _ => eq_false fun h => (by cases h)⟩
theorem le_b (x y : Bool) : le (.b x) (.b y) = (x = y) := propext ⟨fun h => by rcases h with h | ⟨h, _⟩ <;> cases h; rfl, fun h => .inl (h ▸ rfl)⟩
theorem le_n (k : IntKind) (x y : Int) : le (.n k x) (.n k y) = (x = y) := propext ⟨fun h => by rcases h with h | ⟨h, _⟩ <;> cases h; rfl, fun h => .inl (h ▸ rfl)⟩
theorem le_s (x y : List UInt8) : le (.s x) (.s y) = (x = y) := propext ⟨fun h => by rcases h with h | ⟨h, _⟩ <;> cases h; rfl, fun h => .inl (h ▸ rfl)⟩
theorem ew : (∀ C rs l σ, Out C rs l σ = vRes C.P σ.bk σ.sl rs fun vs => leL (vwL σ.bk vs) l) ∧ (∀ P bk sl K, vRes P bk sl [] K = K []) ∧ (∀ P bk sl t rs K, vRes P bk sl (.tmp t :: rs) K = vRes P bk sl rs fun l => K (sl t :: l)) ∧ (∀ P bk sl t T rs K, vRes P bk sl (.cell t T :: rs) K = vLoad P T bk (sl t) fun v => vRes P bk sl rs fun l => K (v :: l)) ∧ (∀ bk, vwL bk [] = []) ∧ (∀ bk v l, vwL bk (v :: l) = vw bk v :: vwL bk l) ∧ (leL [] [] = True) ∧ (∀ x l y l', leL (x :: l) (y :: l') = (le x y ∧ leL l l')) ∧
    (∀ bk x, vw bk (.b x) = .b x) ∧ (∀ bk k x, vw bk (.n k x) = .n k x) ∧ (∀ bk l, vw bk (.s l) = .s l) ∧ (∀ bk l, vw bk (.ag l) = .ag (vwL bk l)) ∧ (∀ bk, vw bk .nl = .nl) ∧ (∀ bk (z : Nat) (α : Type) (d : α) (l : List α) (e : α → V), vw bk (.sl z α d l e) = .sl z α d l e) ∧
    (∀ bk i n, vw bk (.ow i n) = match bk i with
      | some (.row _ z α d l e _) => if n = l.length then .sl z α d l e else .j
      | _ => .j) ∧ (∀ x y, le (.b x) (.b y) = (x = y)) ∧ (∀ k x y, le (.n k x) (.n k y) = (x = y)) ∧ (∀ x y, le (.s x) (.s y) = (x = y)) :=
  ⟨fun _ _ _ _ => rfl, fun _ _ _ _ => rfl, fun _ _ _ _ _ _ => rfl, fun _ _ _ _ _ _ _ => rfl, fun _ => rfl, fun _ _ _ => rfl, rfl, fun _ _ _ _ => rfl, fun _ _ => rfl, fun _ _ _ => rfl, fun _ _ => rfl, fun _ _ => rfl, fun _ => rfl, fun _ _ _ _ _ _ => rfl, fun _ _ _ => rfl, le_b, le_n, le_s⟩
end Go.Proofs.YtikmkgoeepgbkaaGreatDoor.Ev
namespace Go.Proofs.YtikmkgoeepgbkaaGreatDoor.Ev
open Go.RowKit
open Go.Proofs.YtikmkgoeepgbkaaGreatDoor.Mem
set_option linter.unusedVariables false

/-- What a function is known to do is its contract. -/
theorem Spec.of {P : Program} {L : World → Prop} {f : Nat} {av : List V} {r : V} {fn : Func} (hf : P.funcs[f]? = some fn) (hb : fn.body.isNone = false) (hn : (fn.name == "runtime.NumGoroutine") = false) (hr : ∀ k, men r k = false)
    (h : ∀ (S : Nat → Prop) (W : World) (xs : Array Value), L W → xs.size = av.length → (∀ (q : Nat) (y : V) (v : Value), av[q]? = some y → xs[q]? = some v → Rep S W G0 y v) → (∀ g, S g → g < W.heap.size) →
      Calls P f xs W fun e W' => ∃ v, e = .returned v ∧ Below W.heap.size W W' ∧ Rep S W' G0 r v) : Spec P L f av r :=
  ⟨⟨fn, hf, hb, hn⟩, hr, fun S W xs hL hs hx hS => (h S W xs hL hs hx hS).mono fun e W' ⟨v, h1, h2, h3⟩ => ⟨v, S, h1, h2, fun g hg => ⟨Nat.lt_of_lt_of_le (hS g hg) h2.size, .inr hg⟩, h3⟩⟩
/-- What a contract tells of a call. -/
theorem Spec.calls {P : Program} {L : World → Prop} {f : Nat} {av : List V} {r : V} (h : Spec P L f av r) {W : World} {xs : Array Value} (hL : L W) (hs : xs.size = av.length) {S : Nat → Prop} (hx : ∀ (q : Nat) (y : V) (v : Value), av[q]? = some y → xs[q]? = some v → Rep S W G0 y v) (hS : ∀ g, S g → g < W.heap.size) :
    Calls P f xs W fun e W' => ∃ v F', e = .returned v ∧ Below W.heap.size W W' ∧ Rep F' W' G0 r v :=
  (h.2.2 S W xs hL hs hx hS).mono fun e W' ⟨v, F', h1, h2, _, h3⟩ => ⟨v, F', h1, h2, h3⟩
end Go.Proofs.YtikmkgoeepgbkaaGreatDoor.Ev
namespace Go.Proofs.YtikmkgoeepgbkaaGreatDoor.Ev
open Go.RowKit
open Go.Proofs.YtikmkgoeepgbkaaGreatDoor.Mem
set_option linter.unusedVariables false

theorem Rel.nil {w0 : Bs} {S : Nat → Prop} {m : Nat} {σ : St} {a : Act} {W : World} {t : Nat} (T : Nat) (h : Elp) (hR : Rel w0 S m σ a W) (ht : σ.sl t = .nl) (hal : σ.al t = false) : Rel w0 S m (σ.nw t (.ow t 0) none (.row T h.z h.α h.d [] h.e h.c)) a W := by
  obtain ⟨G, F, hG⟩ := hR
  have hx := hG.slot t
  rw [ht] at hx
  have hx : a.tmps.getD t undef = .slice none 0 0 := by
    generalize a.tmps.getD t undef = x at hx
    cases hx
    rfl
  have hm : t < a.tmps.size := by
    rcases Nat.lt_or_ge t a.tmps.size with h1 | h1
    · exact h1
    · rw [Array.getD_eq_getD_getElem?, Array.getElem?_eq_none h1] at hx
      cases hx
  have := hG.fresh (d := t) (by rw [← hG.size]; exact hm) hal none (.row T h.z h.α h.d [] h.e h.c) (0, .slice none 0 0) (v := .ow t 0) (x := .slice none 0 0) (W' := W) (BelX.refl _ _) (fun g _ _ => rfl)
    ⟨[], by simpa using World.ownsRow_nil W 0 T h.z, fun g hg => by simp [Value.ownBlock] at hg, fun q x h => by simp at h⟩ (fun g hg => by simp [Bk.ob, Value.ownBlock] at hg) (.ow _ _ _ _ _ (by simp)) (fun i hi => .inl (by simp only [men, beq_iff_eq] at hi; exact hi.symm)) (fun k hk => by simp [Bk.men] at hk)
  have e : a.put (some t) (.slice none 0 0) = a := by
    cases a with
    | mk tmps defers =>
      simp only [Act.put]
      congr 1
      dsimp only at hx hm
      rw [Array.getD_eq_getD_getElem?, Array.getElem?_eq_getElem hm, Option.getD_some] at hx
      apply Array.ext
      · simp
      · intro i h1 h2
        rw [Array.getElem_setIfInBounds]
        split
        · rename_i e; subst e; exact hx.symm
        · rfl
  rw [e] at this
  exact ⟨_, _, this⟩
theorem lp_nil {B : Ct → St → Prop} {Q : Ct} {σ : St} (t T : Nat) (h : Elp) (ht : σ.sl t = .nl) (hal : σ.al t = false) (hl : lp B Q (σ.nw t (.ow t 0) none (.row T h.z h.α h.d [] h.e h.c))) : lp B Q σ := by
  obtain ⟨I, N, n, h0, h2, h1⟩ := hl
  exact ⟨I, N, n, fun w0 S m a W hR => h0 w0 S m a W (Rel.nil T h hR ht hal), h2, h1⟩
end Go.Proofs.YtikmkgoeepgbkaaGreatDoor.Ev
namespace Go.Proofs.YtikmkgoeepgbkaaGreatDoor.Ev
open Go.RowKit
open Go.Proofs.YtikmkgoeepgbkaaGreatDoor.Mem
set_option linter.unusedVariables false
set_option linter.unusedSimpArgs false

mutual
/-- What is handed over, and what is read. -/
def vs (ids : List Nat) (bk : Nat → Option Bk) : V → V
  | .ow i n => match wh i ids with
    | some k => .ow k n
    | none => match bk i with
      | some (.row _ z α d l e _) => if n = l.length then .sl z α d l e else .j
      | _ => .j
  | .ag l => .ag (vsL ids bk l)
  | .tp l => .tp (vsL ids bk l)
  | .it t v => .it t (vs ids bk v)
  | .p _ _ => .j
  | .pe _ _ _ _ => .j
  | v => v
def vsL (ids : List Nat) (bk : Nat → Option Bk) : List V → List V
  | [] => []
  | v :: l => vs ids bk v :: vsL ids bk l
end
theorem vsL_get {ids : List Nat} {bk : Nat → Option Bk} : ∀ (l : List V) (q : Nat), (vsL ids bk l)[q]? = (l[q]?).map (vs ids bk)
  | [], q => by simp [vsL]
  | v :: l, 0 => by simp [vsL]
  | v :: l, q + 1 => by simp [vsL, vsL_get l q]
theorem vsL_len {ids : List Nat} {bk : Nat → Option Bk} : ∀ (l : List V), (vsL ids bk l).length = l.length
  | [] => rfl
  | v :: l => by simp [vsL, vsL_len l]
def SeesN (ids : List Nat) (G : Gm) (F : Nat → Prop) (σ : St) (g : Nat) : Prop := F g ∨ ∃ i b, wh i ids = none ∧ σ.bk i = some b ∧ b.ob G i g
theorem ob_at {G G' : Gm} {i k : Nat} {b : Bk} {g : Nat} (h : G' k = G i) : b.ob G' k g ↔ b.ob G i g := by
  cases b <;> simp only [Bk.ob, h]
section
variable {w0 : Bs} {S : Nat → Prop} {m : Nat} {G : Gm} {F : Nat → Prop} {σ : St} {a : Act} {W : World} {u : Value} {v : V} {ids : List Nat}
theorem row_slN {T z : Nat} {α : Type} {d : α} {l : List α} {e : α → V} {c : V → α} {i n : Nat} {G' : Gm} (hR : RelG w0 S m G F σ a W) (hi : wh i ids = none) (hb : σ.bk i = some (.row T z α d l e c)) (hn : n = l.length) (h : Rep F W G (.ow i n) u) : Rep (SeesN ids G F σ) W G' (.sl z α d l e) u := by
  obtain ⟨xs, b1, b2, b3⟩ := hR.blk i _ hb
  obtain ⟨e1, ao, c', e2⟩ := h.ow_inv
  rcases b1.2 with ⟨h5, h6⟩ | ⟨g, cap, cur, h5, k1, k2, k3, k4, k5, k6⟩
  · have : l = [] := List.eq_nil_of_length_eq_zero h6
    subst this
    rw [e1, h5]
    exact .sl0 _ _ _ _ _ _ _
  · rw [e1, h5]
    have hob : (G i).2.ownBlock = some g := by rw [h5]; rfl
    have hel : ∀ (q : Nat) (x : α), l[q]? = some x → ∀ (t : Nat) (y : V), (cs (e x))[t]? = some y → W.cell? ⟨g, 0 + (q * z + t), none⟩ = some (xs.getD (q * z + t) undef) ∧ Rep F W G0 y (xs.getD (q * z + t) undef) := by
      intro q x hq t y ht
      obtain ⟨v, hv, hv2⟩ := (b3 q x hq).2.2 t y ht
      have := b1.cells (g := g) hob (q * z + t) v hv
      rw [add_lit] at this
      rw [List.getD_eq_getElem?_getD, hv]
      exact ⟨this, hv2⟩
    exact .sl G' z α d l e g 0 cap (fun q t => xs.getD (q * z + t) undef) (.inr ⟨i, _, hi, hb, hob⟩) k3 (fun q x hq => (b3 q x hq).2.1) (fun q x hq => (b3 q x hq).1) (fun q x t y hq ht => (hel q x hq t y ht).1) (fun q x t y hq ht => (hel q x hq t y ht).2.wide fun g hg => .inl hg)
theorem vs_rep (hR : RelG w0 S m G F σ a W) (h : Rep F W G v u) : Rep (SeesN ids G F σ) W (fun k => G (ids.getD k 0)) (vs ids σ.bk v) u := by
  generalize hG : G = G' at h
  induction h with
  | ow G1 i n ao c h =>
    subst hG
    simp only [vs]
    split
    · rename_i k hk
      exact .ow _ _ _ _ _ (by rw [List.getD_eq_getElem?_getD, wh_get hk]; exact h)
    · rename_i hk
      split
      · rename_i T z α d l e c' hb
        split
        · rename_i hn
          exact row_slN hR hk hb hn (.ow _ _ _ _ _ h)
        · exact .j _ _
      · exact .j _ _
  | ag G1 l vs hl hr ih =>
    simp only [Ev.vs]
    refine .ag _ _ _ (by rw [vsL_len]; exact hl) fun q y v e1 e2 => ?_
    rw [vsL_get] at e1
    cases hq : l[q]? with
    | none => rw [hq] at e1; cases e1
    | some y' =>
      rw [hq, Option.map_some, Option.some.injEq] at e1
      rw [← e1]
      exact ih q y' v hq e2 hG
  | tp G1 l vs hl hr ih =>
    simp only [Ev.vs]
    refine .tp _ _ _ (by rw [vsL_len]; exact hl) fun q y v e1 e2 => ?_
    rw [vsL_get] at e1
    cases hq : l[q]? with
    | none => rw [hq] at e1; cases e1
    | some y' =>
      rw [hq, Option.map_some, Option.some.injEq] at e1
      rw [← e1]
      exact ih q y' v hq e2 hG
  | it G1 t v x h ih => simp only [vs]; exact .it _ _ _ _ (ih hG)
  | p => simp only [vs]; exact .j _ _
  | pe => simp only [vs]; exact .j _ _
  | sl G1 z α d l e g o c u hg hc hn hz hu hr ih => simp only [vs]; exact (Rep.sl _ z α d l e g o c u hg hc hn hz hu hr).wide fun g hg => .inl hg
  | px G1 v g o u hg hn hu hr ih => simp only [vs]; exact (Rep.px _ v g o u hg hn hu hr).wide fun g hg => .inl hg
  | _ => simp only [vs]; constructor
theorem vs_all (hR : RelG w0 S m G F σ a W) : ∀ {l : List V} {ys : List Value}, All2 (Rep F W G) l ys → All2 (Rep (SeesN ids G F σ) W fun k => G (ids.getD k 0)) (vsL ids σ.bk l) ys
  | [], _, .nil => .nil
  | _ :: _, _, .cons h t => .cons (vs_rep hR h) (vs_all hR t)
end
def OutO (C : Cx) (rs : List ResultVar) (l : List V) (rb : List Bk) (σ : St) : Prop := ∃ ids : List Nat, vRes C.P σ.bk σ.sl rs (fun vl => leL (vsL ids σ.bk vl) l) ∧ ids.Nodup ∧ ids.map σ.bk = rb.map some
theorem spec_ofO {C : Cx} {f : Nat} {fn : Func} {c : Code} {l rl : List V} {rs : List ResultVar} (hx : C.P.follows .mixedOrders = true) (hS : Stab C.L) (hf : C.P.funcs[f]? = some fn) (hb : fn.body = some c) (hname : (fn.name == "runtime.NumGoroutine") = false) (hrs : fn.results = rs.toArray)
    (hchk0 : chkM fn.ntmps c = true) (hlen : l.length ≤ fn.ntmps) (hm : ∀ i, menL l i = false) {rb : List Bk} (hmr : ∀ i, menL rl i = true → i < rb.length) (hrow : ∀ b ∈ rb, isRow b) (hlr : rl.length = rs.length) (hl4 : rs.length ≤ 4)
    (h : wpC C c ⟨OutO C rs rl rb, fun _ _ => False, OutO C rs rl rb⟩ (ini l)) : SpecO C.P C.L f l (pack rl) rb := by
  refine ⟨⟨fn, hf, by rw [hb]; rfl, hname⟩, ⟨fun i hi => ?_, hrow⟩, fun S W xs hL hxs hr hSW => ?_⟩
  · refine hmr i ?_
    unfold pack at hi
    split at hi
    · simpa [menL] using hi
    · simpa [men] using hi
  · obtain ⟨hml, hchk⟩ : fn.ntmps ≤ 1000000000 ∧ chk fn.ntmps c = true := by unfold chkM at hchk0; simpa using hchk0
    have hR : RelG (Bs.of W) S fn.ntmps G0 S (ini l) { tmps := xs ++ Array.replicate (fn.ntmps - xs.size) undef, defers := [] } W := by
      refine ⟨BelX.refl _ _, by simp; omega, fun t => ?_, fun i b h => (by cases h), fun i b g h => (by cases h), fun i i' b b' g _ h => (by cases h), fun g hg => ⟨hSW g hg, .inr hg⟩, rfl, fun t i h => ?_, fun i b h => (by cases h), fun i A h => (by cases h), hml⟩
      · simp only [ini]
        by_cases ht : t < l.length
        · have e1 : l[t]? = some (l.getD t .j) := by rw [List.getD_eq_getElem?_getD, List.getElem?_eq_getElem ht]; rfl
          refine hr t _ _ e1 ?_
          rw [Array.getD_eq_getD_getElem?, Array.getElem?_append_left (by omega), Array.getElem?_eq_getElem (by omega)]
          rfl
        · rw [List.getD_eq_getElem?_getD, List.getElem?_eq_none (by omega)]
          exact .j _ _
      · simp only [ini] at h
        by_cases ht : t < l.length
        · have e1 : l[t]? = some (l.getD t .j) := by rw [List.getD_eq_getElem?_getD, List.getElem?_eq_getElem ht]; rfl
          have := menL_of e1 h
          rw [hm i] at this
          cases this
        · rw [List.getD_eq_getElem?_getD, List.getElem?_eq_none (by omega)] at h
          cases h
    refine calls_of_wp hf hb (Code.wp_mono (fun e a' W' hq => ?_) (wpC_ok hx hS hL c _ _ _ _ hchk h ⟨G0, S, hR⟩))
    have fin : (∃ σ, Rel (Bs.of W) S fn.ntmps σ a' W' ∧ OutO C rs rl rb σ) → a'.defers = [] ∧ ∃ v, (results fn a'.tmps).run C.P W' = .ok v W' ∧ ∃ v_1 F' G', Ending.returned v = .returned v_1 ∧ Below W.heap.size W W' ∧ (∀ g, F' g → g < W'.heap.size ∧ (W.heap.size ≤ g ∨ S g)) ∧ Rep F' W' G' (pack rl) v_1 ∧
        (∀ (k : Nat) (b : Bk), rb[k]? = some b → BkRep F' W' G' k b ∧ ∀ g, b.ob G' k g → W.heap.size ≤ g ∧ g < W'.heap.size ∧ ¬ F' g) ∧ ∀ (k k' : Nat) (b b' : Bk) (g : Nat), k ≠ k' → rb[k]? = some b → rb[k']? = some b' → b.ob G' k g → ¬ b'.ob G' k' g := by
      rintro ⟨σ, ⟨G, F, hG⟩, ids, ho, hnd, hids⟩
      obtain ⟨l0, ys, ho, hrun, hrep⟩ := vRes_ok hG ho
      have hat : ∀ (k : Nat) (b : Bk), rb[k]? = some b → ∃ i, ids[k]? = some i ∧ σ.bk i = some b := fun k b h => by
        have h1 : (rb.map some)[k]? = some (some b) := by rw [List.getElem?_map, h]; rfl
        rw [← hids, List.getElem?_map] at h1
        cases e : ids[k]? with
        | none => rw [e] at h1; cases h1
        | some i => rw [e] at h1; exact ⟨i, rfl, Option.some.inj h1⟩
      have hG' : ∀ k i, ids[k]? = some i → G (ids.getD k 0) = G i := fun k i h => by rw [List.getD_eq_getElem?_getD, h]; rfl
      refine ⟨hG.defers, _, run_res hrs hl4 hrun, _, SeesN ids G F σ, fun k => G (ids.getD k 0), rfl, hG.below.plain, fun g hg => ?_, ?_, fun k b hb => ?_, fun k k' b b' g hkk hb hb' hg => ?_⟩
      · rcases hg with hg | ⟨i, b, h0, h1, h2⟩
        · exact (hG.fin g hg).imp id fun h => h.imp may_of id
        · obtain ⟨k1, k2, k3⟩ := hG.own i b g h1 h2
          exact ⟨k2, .inl (may_of k1)⟩
      · have key : All2 (Rep (SeesN ids G F σ) W' fun k => G (ids.getD k 0)) rl ys := leL_all ho (vs_all hG hrep)
        match rl, ys, key with
        | [], [], _ => exact .tp _ _ _ rfl fun q y v h => by simp at h
        | [y], [x], .cons k _ => exact k
        | y :: y' :: rl, x :: x' :: ys, key => exact .tp _ _ _ (by simpa using key.length_eq.symm) fun q z v e1 e2 => key.get q z v e1 (by simpa using e2)
      · obtain ⟨i, h1, h2⟩ := hat k b hb
        have e := hG' k i h1
        have hrb := hrow b (List.mem_of_getElem? hb)
        cases b with
        | cells => exact hrb.elim
        | itr => exact hrb.elim
        | row T z α d l e0 c =>
          refine ⟨?_, fun g hg => ?_⟩
          · obtain ⟨xs, k1, k2, k3⟩ := (hG.blk i _ h2).wide (F' := SeesN ids G F σ) fun g => .inl
            exact ⟨xs, by dsimp only; rw [e]; exact k1, by dsimp only; rw [e]; exact k2, k3⟩
          · simp only [Bk.ob] at hg
            rw [e] at hg
            obtain ⟨k1, k2, k3⟩ := hG.own i _ g h2 hg
            refine ⟨may_of k1, k2, fun hs => ?_⟩
            rcases hs with hs | ⟨i', b', h3, h4, h5⟩
            · exact k3 hs
            · exact hG.apart i i' _ b' g (fun ei => wh_none h3 (by rw [← ei]; exact List.mem_of_getElem? h1)) h2 h4 hg h5
      · obtain ⟨i, h1, h2⟩ := hat k b hb
        obtain ⟨i', h1', h2'⟩ := hat k' b' hb'
        have e := hG' k i h1
        have e' := hG' k' i' h1'
        have hg := (ob_at (G := G) (i := i) (G' := fun k => G (ids.getD k 0)) e).1 hg
        intro hg'
        have hg' := (ob_at (G := G) (i := i') (G' := fun k => G (ids.getD k 0)) e').1 hg'
        refine hG.apart i i' b b' g (fun ei => hkk ?_) h2 h2' hg hg'
        subst ei
        have q1 := get_wh hnd h1
        rw [get_wh hnd h1'] at q1
        exact (Option.some.inj q1).symm
    cases e with
    | normal => exact fin hq
    | ret => exact fin hq
    | exit i => obtain ⟨_, _, h⟩ := hq; exact h.elim
    | _ => exact hq.elim
/-- Rules: rows handed over. -/
theorem ez : (∀ (σ : St) d v ids rb t, (σ.adds d v ids rb).sl t = if t = d then v else σ.sl t) ∧ (∀ (σ : St) d v ids rb i, (σ.adds d v ids rb).bk i = match wh i ids with
      | some k => rb[k]?
      | none => σ.bk i) ∧ (∀ (σ : St) d v ids rb i, (σ.adds d v ids rb).al i = ((wh i ids).isSome || σ.al i)) ∧ (∀ i, wh i [] = none) ∧ (∀ i x l, wh i (x :: l) = if i = x then some 0 else (wh i l).map (· + 1)) ∧
    (∀ ids bk, vsL ids bk [] = []) ∧ (∀ ids bk v l, vsL ids bk (v :: l) = vs ids bk v :: vsL ids bk l) ∧ (∀ ids bk x, vs ids bk (.b x) = .b x) ∧ (∀ ids bk k x, vs ids bk (.n k x) = .n k x) ∧ (∀ ids bk l, vs ids bk (.s l) = .s l) ∧ (∀ ids bk l, vs ids bk (.ag l) = .ag (vsL ids bk l)) ∧ (∀ ids bk, vs ids bk .nl = .nl) ∧
    (∀ ids bk (z : Nat) (α : Type) (d : α) (l : List α) (e : α → V), vs ids bk (.sl z α d l e) = .sl z α d l e) ∧ (∀ ids bk i n, vs ids bk (.ow i n) = match wh i ids with
      | some k => .ow k n
      | none => match bk i with
        | some (.row _ z α d l e _) => if n = l.length then .sl z α d l e else .j
        | _ => .j) ∧
    (∀ ρ i n, rnV ρ (.ow i n) = .ow (ρ i) n) ∧ (∀ ρ l, rnV ρ (.ag l) = .ag (rnL ρ l)) ∧ (∀ ρ l, rnV ρ (.tp l) = .tp (rnL ρ l)) ∧ (∀ ρ, rnL ρ [] = []) ∧ (∀ ρ v l, rnL ρ (v :: l) = rnV ρ v :: rnL ρ l) ∧ (∀ ρ x, rnV ρ (.b x) = .b x) ∧ (∀ ρ k x, rnV ρ (.n k x) = .n k x) ∧ (∀ ρ l, rnV ρ (.s l) = .s l) ∧ (∀ ρ, rnV ρ .nl = .nl) ∧
    (∀ ρ (z : Nat) (α : Type) (d : α) (l : List α) (e : α → V), rnV ρ (.sl z α d l e) = .sl z α d l e) ∧ (∀ i n i' n', le (.ow i n) (.ow i' n') = (i = i' ∧ n = n')) :=
  ⟨fun _ _ _ _ _ _ => rfl, fun _ _ _ _ _ _ => rfl, fun _ _ _ _ _ _ => rfl, fun _ => rfl, fun _ _ _ => rfl, fun _ _ => rfl, fun _ _ _ _ => rfl, fun _ _ _ => rfl, fun _ _ _ _ => rfl, fun _ _ _ => rfl, fun _ _ _ => rfl, fun _ _ => rfl, fun _ _ _ _ _ _ _ => rfl, fun _ _ _ _ => rfl,
    fun _ _ _ => rfl, fun _ _ => rfl, fun _ _ => rfl, fun _ => rfl, fun _ _ _ => rfl, fun _ _ => rfl, fun _ _ _ => rfl, fun _ _ => rfl, fun _ => rfl, fun _ _ _ _ _ _ => rfl, fun _ _ _ _ => propext ⟨fun h => by rcases h with h | ⟨h, _⟩ <;> cases h; exact ⟨rfl, rfl⟩, fun ⟨h, h'⟩ => .inl (by rw [h, h'])⟩⟩
/-- Rules: what is stored. -/
theorem et2 : (∀ l off v, putV l off v = l.take off ++ cs v ++ l.drop (off + (cs v).length)) ∧ (∀ k x, oneV (.n k x) = true) ∧ (∀ x, oneV (.b x) = true) ∧ (∀ l, oneV (.s l) = true) ∧ oneV .nl = true ∧ (∀ i n, oneV (.ow i n) = true) ∧ (∀ i n, oneV (.p i n) = true) ∧ (∀ (z : Nat) (α : Type) (d : α) (l : List α) (e : α → V), oneV (.sl z α d l e) = true) ∧ (∀ v, oneV (.px v) = true) :=
  ⟨fun _ _ _ => rfl, fun _ _ => rfl, fun _ => rfl, fun _ => rfl, rfl, fun _ _ => rfl, fun _ _ => rfl, fun _ _ _ _ _ => rfl, fun _ => rfl⟩
theorem cnd_n {p : Prop} [Decidable p] {A B : St → Prop} {σ : St} (h1 : ¬ p → A σ) (h2 : p → B σ) : cnd (.b (!decide p)) A B σ := ⟨fun h => h1 (by simpa using h), fun h => h2 (by simpa using h)⟩
theorem ef : (∀ g z l, fits g z (.s l) = (g = false ∧ z = 1)) ∧ (∀ g z k x, fits g z (.n k x) = (g = false ∧ z = 1)) ∧ (∀ g z x, fits g z (.b x) = (g = false ∧ z = 1)) ∧ (∀ g z, fits g z .nl = (g = false ∧ z = 1)) ∧ (∀ g z (z' : Nat) (α : Type) (d : α) (l : List α) (e : α → V), fits g z (.sl z' α d l e) = (g = false ∧ z = 1)) ∧ (∀ g z l, fits g z (.ag l) = (g = true ∧ l.length = z)) :=
  ⟨fun _ _ _ => rfl, fun _ _ _ _ => rfl, fun _ _ _ => rfl, fun _ _ => rfl, fun _ _ _ _ _ _ _ => rfl, fun _ _ _ => rfl⟩
/-- Rules: structs that are built. -/
theorem ebd : (∀ P T ps K, vBuild P T ps K = match plc P T with
      | some pl => match zc P T with
        | some zl => vFill pl ps zl K
        | none => False
      | none => False) ∧ (∀ pl l K, vFill pl [] l K = K (.ag l)) ∧ (∀ pl i v ps l K, vFill pl ((i, v) :: ps) l K = (((cs v).length = (pl.getD i (0, 0)).2 ∧ (pl.getD i (0, 0)).1 + (cs v).length ≤ l.length ∧ i < pl.length ∧ v ≠ .j) ∧ vFill pl ps (putV l (pl.getD i (0, 0)).1 v) K)) := by
  refine ⟨fun P T ps K => ?_, fun _ _ _ => rfl, fun _ _ _ _ _ _ => rfl⟩
  unfold vBuild
  cases plc P T with
  | none => simp
  | some pl =>
    cases zc P T with
    | none => simp
    | some zl => simp
end Go.Proofs.YtikmkgoeepgbkaaGreatDoor.Ev
namespace Go.Proofs.YtikmkgoeepgbkaaGreatDoor.Ev
open Go.RowKit
open Go.Proofs.YtikmkgoeepgbkaaGreatDoor.Mem
set_option linter.unusedVariables false
set_option linter.unusedSimpArgs false
theorem spec_ofOW {C : Cx} {f : Nat} {fn : Func} {c : Code} {l rl : List V} {rs : List ResultVar} (hx : C.P.follows .mixedOrders = true) (hS : Stab C.L) (hf : C.P.funcs[f]? = some fn) (hb : fn.body = some c) (hname : (fn.name == "runtime.NumGoroutine") = false) (hrs : fn.results = rs.toArray)
    (hchk0 : chkM fn.ntmps c = true) (hlen : l.length ≤ fn.ntmps) (hm : ∀ i, menL l i = false) {rb : List Bk} (hmr : ∀ i, menL rl i = true → i < rb.length) (hrow : ∀ b ∈ rb, isRow b) (hlr : rl.length = rs.length) (hl4 : rs.length ≤ 4)
    (h : wpC C c ⟨Wk (OutO C rs rl rb), fun _ _ => False, Wk (OutO C rs rl rb)⟩ (ini l)) : SpecO C.P C.L f l (pack rl) rb := by
  refine ⟨⟨fn, hf, by rw [hb]; rfl, hname⟩, ⟨fun i hi => ?_, hrow⟩, fun S W xs hL hxs hr hSW => ?_⟩
  · refine hmr i ?_
    unfold pack at hi
    split at hi
    · simpa [menL] using hi
    · simpa [men] using hi
  · obtain ⟨hml, hchk⟩ : fn.ntmps ≤ 1000000000 ∧ chk fn.ntmps c = true := by unfold chkM at hchk0; simpa using hchk0
    have hR : RelG (Bs.of W) S fn.ntmps G0 S (ini l) { tmps := xs ++ Array.replicate (fn.ntmps - xs.size) undef, defers := [] } W := by
      refine ⟨BelX.refl _ _, by simp; omega, fun t => ?_, fun i b h => (by cases h), fun i b g h => (by cases h), fun i i' b b' g _ h => (by cases h), fun g hg => ⟨hSW g hg, .inr hg⟩, rfl, fun t i h => ?_, fun i b h => (by cases h), fun i A h => (by cases h), hml⟩
      · simp only [ini]
        by_cases ht : t < l.length
        · have e1 : l[t]? = some (l.getD t .j) := by rw [List.getD_eq_getElem?_getD, List.getElem?_eq_getElem ht]; rfl
          refine hr t _ _ e1 ?_
          rw [Array.getD_eq_getD_getElem?, Array.getElem?_append_left (by omega), Array.getElem?_eq_getElem (by omega)]
          rfl
        · rw [List.getD_eq_getElem?_getD, List.getElem?_eq_none (by omega)]
          exact .j _ _
      · simp only [ini] at h
        by_cases ht : t < l.length
        · have e1 : l[t]? = some (l.getD t .j) := by rw [List.getD_eq_getElem?_getD, List.getElem?_eq_getElem ht]; rfl
          have := menL_of e1 h
          rw [hm i] at this
          cases this
        · rw [List.getD_eq_getElem?_getD, List.getElem?_eq_none (by omega)] at h
          cases h
    refine calls_of_wp hf hb (Code.wp_mono (fun e a' W' hq => ?_) (wpC_ok hx hS hL c _ _ _ _ hchk h ⟨G0, S, hR⟩))
    have fin : (∃ σ, Rel (Bs.of W) S fn.ntmps σ a' W' ∧ Wk (OutO C rs rl rb) σ) → a'.defers = [] ∧ ∃ v, (results fn a'.tmps).run C.P W' = .ok v W' ∧ ∃ v_1 F' G', Ending.returned v = .returned v_1 ∧ Below W.heap.size W W' ∧ (∀ g, F' g → g < W'.heap.size ∧ (W.heap.size ≤ g ∨ S g)) ∧ Rep F' W' G' (pack rl) v_1 ∧
        (∀ (k : Nat) (b : Bk), rb[k]? = some b → BkRep F' W' G' k b ∧ ∀ g, b.ob G' k g → W.heap.size ≤ g ∧ g < W'.heap.size ∧ ¬ F' g) ∧ ∀ (k k' : Nat) (b b' : Bk) (g : Nat), k ≠ k' → rb[k]? = some b → rb[k']? = some b' → b.ob G' k g → ¬ b'.ob G' k' g := by
      rintro ⟨σ0, hR0, hw⟩
      obtain ⟨σ, ⟨G, F, hG⟩, ids, ho, hnd, hids⟩ := hw _ _ _ _ _ hR0
      obtain ⟨l0, ys, ho, hrun, hrep⟩ := vRes_ok hG ho
      have hat : ∀ (k : Nat) (b : Bk), rb[k]? = some b → ∃ i, ids[k]? = some i ∧ σ.bk i = some b := fun k b h => by
        have h1 : (rb.map some)[k]? = some (some b) := by rw [List.getElem?_map, h]; rfl
        rw [← hids, List.getElem?_map] at h1
        cases e : ids[k]? with
        | none => rw [e] at h1; cases h1
        | some i => rw [e] at h1; exact ⟨i, rfl, Option.some.inj h1⟩
      have hG' : ∀ k i, ids[k]? = some i → G (ids.getD k 0) = G i := fun k i h => by rw [List.getD_eq_getElem?_getD, h]; rfl
      refine ⟨hG.defers, _, run_res hrs hl4 hrun, _, SeesN ids G F σ, fun k => G (ids.getD k 0), rfl, hG.below.plain, fun g hg => ?_, ?_, fun k b hb => ?_, fun k k' b b' g hkk hb hb' hg => ?_⟩
      · rcases hg with hg | ⟨i, b, h0, h1, h2⟩
        · exact (hG.fin g hg).imp id fun h => h.imp may_of id
        · obtain ⟨k1, k2, k3⟩ := hG.own i b g h1 h2
          exact ⟨k2, .inl (may_of k1)⟩
      · have key : All2 (Rep (SeesN ids G F σ) W' fun k => G (ids.getD k 0)) rl ys := leL_all ho (vs_all hG hrep)
        match rl, ys, key with
        | [], [], _ => exact .tp _ _ _ rfl fun q y v h => by simp at h
        | [y], [x], .cons k _ => exact k
        | y :: y' :: rl, x :: x' :: ys, key => exact .tp _ _ _ (by simpa using key.length_eq.symm) fun q z v e1 e2 => key.get q z v e1 (by simpa using e2)
      · obtain ⟨i, h1, h2⟩ := hat k b hb
        have e := hG' k i h1
        have hrb := hrow b (List.mem_of_getElem? hb)
        cases b with
        | cells => exact hrb.elim
        | itr => exact hrb.elim
        | row T z α d l e0 c =>
          refine ⟨?_, fun g hg => ?_⟩
          · obtain ⟨xs, k1, k2, k3⟩ := (hG.blk i _ h2).wide (F' := SeesN ids G F σ) fun g => .inl
            exact ⟨xs, by dsimp only; rw [e]; exact k1, by dsimp only; rw [e]; exact k2, k3⟩
          · simp only [Bk.ob] at hg
            rw [e] at hg
            obtain ⟨k1, k2, k3⟩ := hG.own i _ g h2 hg
            refine ⟨may_of k1, k2, fun hs => ?_⟩
            rcases hs with hs | ⟨i', b', h3, h4, h5⟩
            · exact k3 hs
            · exact hG.apart i i' _ b' g (fun ei => wh_none h3 (by rw [← ei]; exact List.mem_of_getElem? h1)) h2 h4 hg h5
      · obtain ⟨i, h1, h2⟩ := hat k b hb
        obtain ⟨i', h1', h2'⟩ := hat k' b' hb'
        have e := hG' k i h1
        have e' := hG' k' i' h1'
        have hg := (ob_at (G := G) (i := i) (G' := fun k => G (ids.getD k 0)) e).1 hg
        intro hg'
        have hg' := (ob_at (G := G) (i := i') (G' := fun k => G (ids.getD k 0)) e').1 hg'
        refine hG.apart i i' b b' g (fun ei => hkk ?_) h2 h2' hg hg'
        subst ei
        have q1 := get_wh hnd h1
        rw [get_wh hnd h1'] at q1
        exact (Option.some.inj q1).symm
    cases e with
    | normal => exact fin hq
    | ret => exact fin hq
    | exit i => obtain ⟨_, _, h⟩ := hq; exact h.elim
    | _ => exact hq.elim
/-- Rules: rows handed over. -/
theorem wk_out {C : Cx} {rs : List ResultVar} {l : List V} {rb : List Bk} {σ : St} (ids : List Nat) (h1 : vRes C.P σ.bk σ.sl rs (fun vl => leL (vsL ids σ.bk vl) l)) (h2 : ids.Nodup) (h3 : ids.map σ.bk = rb.map some) : Wk (OutO C rs l rb) σ := fun _ _ _ _ _ hR => ⟨σ, hR, ids, h1, h2, h3⟩
/-- A nil slice as an own row of no elements. -/
theorem wk_nil {J : St → Prop} {σ : St} (t T : Nat) (h : Elp) (ht : σ.sl t = .nl) (hal : σ.al t = false) (hJ : Wk J (σ.nw t (.ow t 0) none (.row T h.z h.α h.d [] h.e h.c))) : Wk J σ := fun _ _ _ _ _ hR => hJ _ _ _ _ _ (Rel.nil T h hR ht hal)
end Go.Proofs.YtikmkgoeepgbkaaGreatDoor.Ev
namespace Go.Proofs.YtikmkgoeepgbkaaGreatDoor.Ev
open Go.RowKit
open Go.Proofs.YtikmkgoeepgbkaaGreatDoor.Mem
set_option linter.unusedVariables false
def St.nlc (σ : St) (i Ti : Nat) (l : List V) (t : Nat) (b : Bk) : St :=
  { sl := σ.sl, bk := fun k => if k = t then some b else if k = i then some (.cells Ti l) else σ.bk k, al := fun k => k == t || σ.al k }
theorem menL_set {l : List V} {q : Nat} {v : V} {k : Nat} (h : menL (l.set q v) k = true) : men v k = true ∨ menL l k = true := by
  induction l generalizing q with
  | nil => exact .inr h
  | cons x l ih =>
    cases q with
    | zero =>
      simp only [List.set_cons_zero, menL, Bool.or_eq_true] at h ⊢
      rcases h with h | h
      · exact .inl h
      · exact .inr (.inr h)
    | succ q =>
      simp only [List.set_cons_succ, menL, Bool.or_eq_true] at h ⊢
      rcases h with h | h
      · exact .inr (.inl h)
      · exact (ih h).elim .inl (fun h => .inr (.inr h))
theorem Rel.nilc {w0 : Bs} {S : Nat → Prop} {m : Nat} {σ : St} {a : Act} {W : World} {i Ti t T q : Nat} {l : List V} (h : Elp) (hR : Rel w0 S m σ a W) (hb : σ.bk i = some (.cells Ti l)) (hq : l[q]? = some .nl) (hal0 : σ.al t = false ∧ t < 1000000000) :
    Rel w0 S m (σ.nlc i Ti (l.set q (.ow t 0)) t (.row T h.z h.α h.d [] h.e h.c)) a W := by
  obtain ⟨G, F, hR⟩ := hR
  obtain ⟨hal, htl⟩ := hal0
  have hit : i ≠ t := fun e => by have := (hR.wfb i _ hb).1; rw [e, hal] at this; cases this
  have hG : ∀ k, σ.al k = true → (if k = t then ((0 : Nat), Value.slice none 0 0) else G k) = G k := fun k hk => if_neg fun e => by rw [e, hal] at hk; cases hk
  refine ⟨fun k => if k = t then (0, .slice none 0 0) else G k, F, hR.below, hR.size, fun s => (hR.slot s).ren fun k hk => hG k (hR.wf s k hk), fun k b hk => ?_, fun k b g hk hg => ?_, fun k k' b b' g hkk hk hk' hg hg' => ?_, hR.fin, hR.defers, fun s k hk => by
    have := hR.wf s k hk
    simp [St.nlc, this], fun k b hk => ?_, fun k A h1 => ⟨(hR.fix k A h1).1, by have h2 := (hR.fix k A h1).1; show (if k = t then _ else G k) = A; rw [if_neg (by omega)]; exact (hR.fix k A h1).2⟩, hR.mlt⟩
  · simp only [St.nlc] at hk
    by_cases e : k = t
    · rw [if_pos e] at hk
      obtain rfl := Option.some.inj hk
      refine ⟨[], ?_, fun g hg => ?_, fun q x hx => by simp at hx⟩
      · dsimp only; rw [if_pos e]; exact World.ownsRow_nil W 0 T h.z
      · dsimp only at hg; rw [if_pos e] at hg; simp [Value.ownBlock] at hg
    · rw [if_neg e] at hk
      by_cases e2 : k = i
      · rw [if_pos e2] at hk
        obtain rfl := Option.some.inj hk
        subst e2
        obtain ⟨c, k1, k2, k3⟩ := hR.blk k _ hb
        refine ⟨c, by dsimp only; rw [if_neg e]; exact k1, by rw [List.length_set]; exact k2, fun q' y v e1 e3 => ?_⟩
        rw [List.getElem?_set] at e1
        by_cases e4 : q = q'
        · subst e4
          rw [if_pos rfl] at e1
          split at e1
          · obtain rfl := Option.some.inj e1
            have := (k3 q .nl v hq e3).nl_inv
            rw [this]
            exact .ow _ _ _ _ _ (by rw [if_pos rfl])
          · cases e1
        · rw [if_neg e4] at e1
          exact (k3 q' y v e1 e3).ren fun j hj => hG j ((hR.wfb k _ hb).2 j (by simp only [Bk.men]; exact menL_of e1 hj))
      · rw [if_neg e2] at hk
        exact (hR.blk k b hk).ren (hG k (hR.wfb k b hk).1) fun j hj => hG j ((hR.wfb k b hk).2 j hj)
  · simp only [St.nlc] at hk
    by_cases e : k = t
    · rw [if_pos e] at hk
      obtain rfl := Option.some.inj hk
      simp only [Bk.ob, if_pos e, Value.ownBlock] at hg
      cases hg
    · rw [if_neg e] at hk
      by_cases e2 : k = i
      · rw [if_pos e2] at hk
        obtain rfl := Option.some.inj hk
        subst e2
        simp only [Bk.ob, if_neg e] at hg
        exact hR.own k _ g hb hg
      · rw [if_neg e2] at hk
        exact hR.own k b g hk ((ob_ren (G := G) (by rw [if_neg e]) g).1 hg)
  · have key : ∀ (k : Nat) (b : Bk), (σ.nlc i Ti (l.set q (.ow t 0)) t (.row T h.z h.α h.d [] h.e h.c)).bk k = some b → b.ob (fun k => if k = t then (0, .slice none 0 0) else G k) k g → ∃ b0, σ.bk k = some b0 ∧ b0.ob G k g := fun k b hk hg => by
      simp only [St.nlc] at hk
      by_cases e : k = t
      · rw [if_pos e] at hk
        obtain rfl := Option.some.inj hk
        simp only [Bk.ob, if_pos e, Value.ownBlock] at hg
        cases hg
      · rw [if_neg e] at hk
        by_cases e2 : k = i
        · rw [if_pos e2] at hk
          obtain rfl := Option.some.inj hk
          subst e2
          simp only [Bk.ob, if_neg e] at hg
          exact ⟨_, hb, hg⟩
        · rw [if_neg e2] at hk
          exact ⟨b, hk, (ob_ren (G := G) (by rw [if_neg e]) g).1 hg⟩
    obtain ⟨c, h1, h2⟩ := key k b hk hg
    obtain ⟨c', h3, h4⟩ := key k' b' hk' hg'
    exact hR.apart k k' c c' g hkk h1 h3 h2 h4
  · simp only [St.nlc] at hk ⊢
    by_cases e : k = t
    · rw [if_pos e] at hk
      obtain rfl := Option.some.inj hk
      exact ⟨by simp [e], fun j hj => by cases hj⟩
    · rw [if_neg e] at hk
      by_cases e2 : k = i
      · rw [if_pos e2] at hk
        obtain rfl := Option.some.inj hk
        subst e2
        refine ⟨by rw [(hR.wfb k _ hb).1]; simp, fun j hj => ?_⟩
        rcases menL_set (by simpa only [Bk.men] using hj) with h1 | h1
        · simp only [men, beq_iff_eq] at h1
          simp [h1]
        · have := (hR.wfb k _ hb).2 j h1
          simp [this]
      · rw [if_neg e2] at hk
        obtain ⟨k1, k2⟩ := hR.wfb k b hk
        exact ⟨by rw [k1]; simp, fun j hj => by rw [k2 j hj]; simp⟩
theorem lp_nilc {B : Ct → St → Prop} {Q : Ct} {σ : St} (i Ti : Nat) (l : List V) (q t T : Nat) (h : Elp) (hb : σ.bk i = some (.cells Ti l)) (hq : l[q]? = some .nl) (hal : σ.al t = false ∧ t < 1000000000) (hl : lp B Q (σ.nlc i Ti (l.set q (.ow t 0)) t (.row T h.z h.α h.d [] h.e h.c))) : lp B Q σ := by
  obtain ⟨I, N, n, h0, h2, h1⟩ := hl
  exact ⟨I, N, n, fun w0 S m a W hR => h0 w0 S m a W (Rel.nilc h hR hb hq hal), h2, h1⟩
theorem wk_nilc {J : St → Prop} {σ : St} (i Ti : Nat) (l : List V) (q t T : Nat) (h : Elp) (hb : σ.bk i = some (.cells Ti l)) (hq : l[q]? = some .nl) (hal : σ.al t = false ∧ t < 1000000000) (hl : Wk J (σ.nlc i Ti (l.set q (.ow t 0)) t (.row T h.z h.α h.d [] h.e h.c))) : Wk J σ :=
  fun w0 S m a W hR => hl w0 S m a W (Rel.nilc h hR hb hq hal)
theorem wk_now {J : St → Prop} {σ : St} (h : J σ) : Wk J σ := fun w0 S m a W hR => ⟨σ, hR, h⟩
/-- A call ahead of which the state is told otherwise. -/
theorem cw {P : Program} {L : World → Prop} {f d : Nat} {av : List V} {σ : St} {k : St → Prop} {xs : List Operand} (h : Wk (fun σ' => xCall P L f d (xs.map σ'.rd) σ' k ∨ xCallP P L f d (xs.map σ'.rd) σ' k) σ) : xCall P L f d av σ k ∨ xCallO P L f d av σ k ∨ xCallF P L f d xs σ k ∨ xCallP P L f d av σ k := .inr <| .inr <| .inl h
/-- A loop whose rounds may end under several names. -/
theorem lp_hr {B : Ct → St → Prop} {Q : Ct} {σ : St} (ks kb : List Nat) {X : Type} (vs : X → List (Nat × V)) (bs : X → List (Nat × Bk)) (I : X → Prop) (μ : X → Nat) (x0 : X) (ρ0 : Nat → Nat) (h0 : I x0) (hf : Fits σ σ ks kb (vs x0) (bs x0) (fxr ρ0))
    (h : ∀ x, I x → B ⟨fun σ' => ∃ y, ∃ ρ : Nat → Nat, I y ∧ μ y < μ x ∧ Fits σ' σ ks kb (vs y) (bs y) (fxr ρ), Q.x, Q.r⟩ (hd σ ks kb (vs x) (bs x))) : lp B Q σ := by
  refine ⟨fun n τ => ∃ x, I x ∧ μ x = n ∧ τ = hd σ ks kb (vs x) (bs x), fun n σ' => ∃ y, ∃ ρ : Nat → Nat, I y ∧ μ y < n ∧ Fits σ' σ ks kb (vs y) (bs y) (fxr ρ), μ x0, fun w0 S m a W ⟨G, F, hR⟩ => ⟨_, ⟨_, F, hR.head hf⟩, x0, h0, rfl, rfl⟩, fun n σ' ⟨y, ρ, h1, h2, h3⟩ => ?_, fun n τ ⟨x, hI, hn, hτ⟩ => ?_⟩
  · exact fun w0 S m a W ⟨G, F, hR⟩ => ⟨_, ⟨_, F, hR.head h3⟩, μ y, h2, y, h1, rfl, rfl⟩
  · subst hτ
    subst hn
    exact h x hI
/-- At a cut: what the state between keeps, and what it carries. -/
def Jn {X : Type} (σ : St) (ks kb : List Nat) (vs : X → List (Nat × V)) (bs : X → List (Nat × Bk)) (I : X → Prop) (τ : St) : Prop := ∃ x, I x ∧ τ = hd σ ks kb (vs x) (bs x)
theorem ct_hd {A : Ct → St → Prop} {B : St → Prop} {Q : Ct} {σ : St} (ks kb : List Nat) {X : Type} (vs : X → List (Nat × V)) (bs : X → List (Nat × Bk)) (I : X → Prop)
    (hA : A ⟨Wk (Jn σ ks kb vs bs I), Q.x, Q.r⟩ σ) (hB : ∀ x, I x → B (hd σ ks kb (vs x) (bs x))) : sq true A B Q σ :=
  ⟨_, hA, fun _ ⟨x, hI, h⟩ => h ▸ hB x hI⟩
theorem wk_fit {σ τ : St} {ks kb : List Nat} {X : Type} {vs : X → List (Nat × V)} {bs : X → List (Nat × Bk)} {I : X → Prop} (x : X) (ρ : Nat → Nat) (hI : I x) (h : Fits τ σ ks kb (vs x) (bs x) (fxr ρ)) : Wk (Jn σ ks kb vs bs I) τ :=
  fun w0 S m a W ⟨G, F, hR⟩ => ⟨_, ⟨_, F, hR.head h⟩, x, hI, rfl⟩
/-- A nil slot is read as a slice of no elements. -/
theorem Rel.le {w0 : Bs} {S : Nat → Prop} {m : Nat} {τ : St} {a : Act} {W : World} (hR : Rel w0 S m τ a W) (d : Nat) (v : V) (h : le (τ.sl d) v) (hm : ∀ i, men v i = false) : Rel w0 S m (τ.put d v) a W := by
  obtain ⟨G, F, hR⟩ := hR
  refine ⟨G, F, hR.below, hR.size, fun t => ?_, hR.blk, hR.own, hR.apart, hR.fin, hR.defers, fun t i hi => ?_, hR.wfb, hR.fix, hR.mlt⟩
  · simp only [St.put]
    by_cases e : t = d
    · subst e
      rw [if_pos rfl]
      exact le_rep (hR.slot t) h
    · rw [if_neg e]
      exact hR.slot t
  · simp only [St.put] at hi ⊢
    by_cases e : t = d
    · rw [if_pos e, hm] at hi; cases hi
    · rw [if_neg e] at hi; exact hR.wf t i hi
theorem wk_le {J : St → Prop} {τ : St} (d : Nat) (v : V) (h : le (τ.sl d) v) (hm : ∀ i, men v i = false) (hJ : Wk J (τ.put d v)) : Wk J τ := fun w0 S m a W hR => hJ w0 S m a W (hR.le d v h hm)
theorem lp_le {B : Ct → St → Prop} {Q : Ct} {τ : St} (d : Nat) (v : V) (h : le (τ.sl d) v) (hm : ∀ i, men v i = false) (hl : lp B Q (τ.put d v)) : lp B Q τ := by
  obtain ⟨I, N, n, h0, h2, h1⟩ := hl
  exact ⟨I, N, n, wk_le d v h hm h0, h2, h1⟩
/-- The same, in a block's cells. -/
theorem Rel.leB {w0 : Bs} {S : Nat → Prop} {m : Nat} {τ : St} {a : Act} {W : World} (hR : Rel w0 S m τ a W) (i : Nat) {T : Nat} {l : List V} (l' : List V) (hb : τ.bk i = some (.cells T l)) (h : leL l l') (hm : ∀ k, menL l' k = true → menL l k = true) : Rel w0 S m (τ.setB i (.cells T l')) a W := by
  obtain ⟨G, F, hR⟩ := hR
  obtain ⟨h1, h2⟩ := leL_get h
  have hbk : ∀ j b, (τ.setB i (.cells T l')).bk j = some b → ∃ b', τ.bk j = some b' ∧ (∀ g, b.ob G j g ↔ b'.ob G j g) ∧ (∀ k, b.men k = true → b'.men k = true) := fun j b h => by
    simp only [St.setB] at h
    split at h
    · rename_i e
      subst e
      obtain rfl := Option.some.inj h
      exact ⟨_, hb, fun g => Iff.rfl, hm⟩
    · exact ⟨b, h, fun g => Iff.rfl, fun k h => h⟩
  refine ⟨G, F, hR.below, hR.size, hR.slot, fun j b hj => ?_, fun j b g hj hg => ?_, fun j j' b b' g hjj hj hj' hg hg' => ?_, hR.fin, hR.defers, hR.wf, fun j b hj => ?_, hR.fix, hR.mlt⟩
  · simp only [St.setB] at hj
    split at hj
    · rename_i e
      subst e
      obtain rfl := Option.some.inj hj
      obtain ⟨c, k1, k2, k3⟩ := hR.blk j _ hb
      refine ⟨c, k1, k2.trans h1, fun q y v e1 e2 => ?_⟩
      obtain ⟨y', e3, e4⟩ := h2 q y e1
      exact le_rep (k3 q y' v e3 e2) e4
    · exact hR.blk j b hj
  · obtain ⟨b', e1, e2, _⟩ := hbk j b hj
    exact hR.own j b' g e1 ((e2 g).1 hg)
  · obtain ⟨b1, e1, e2, _⟩ := hbk j b hj
    obtain ⟨b2, e3, e4, _⟩ := hbk j' b' hj'
    exact hR.apart j j' b1 b2 g hjj e1 e3 ((e2 g).1 hg) ((e4 g).1 hg')
  · obtain ⟨b', e1, _, e3⟩ := hbk j b hj
    obtain ⟨k1, k2⟩ := hR.wfb j b' e1
    exact ⟨k1, fun k hk => k2 k (e3 k hk)⟩
theorem wk_leB {J : St → Prop} {τ : St} (i : Nat) {T : Nat} {l : List V} (l' : List V) (hb : τ.bk i = some (.cells T l)) (h : leL l l') (hm : ∀ k, menL l' k = true → menL l k = true) (hJ : Wk J (τ.setB i (.cells T l'))) : Wk J τ := fun w0 S m a W hR => hJ w0 S m a W (hR.leB i l' hb h hm)
theorem lp_leB {B : Ct → St → Prop} {Q : Ct} {τ : St} (i : Nat) {T : Nat} {l : List V} (l' : List V) (hb : τ.bk i = some (.cells T l)) (h : leL l l') (hm : ∀ k, menL l' k = true → menL l k = true) (hl : lp B Q (τ.setB i (.cells T l'))) : lp B Q τ := by
  obtain ⟨I, N, n, h0, h2, h1⟩ := hl
  exact ⟨I, N, n, wk_leB i l' hb h hm h0, h2, h1⟩
theorem le_nl {z : Nat} {α : Type} {d : α} {e : α → V} : le .nl (.sl z α d [] e) := .inr ⟨rfl, _, _, _, _, rfl⟩
theorem enl : (∀ (σ : St) i Ti l t b, (σ.nlc i Ti l t b).sl = σ.sl) ∧ (∀ (σ : St) i Ti l t b k, (σ.nlc i Ti l t b).bk k = if k = t then some b else if k = i then some (.cells Ti l) else σ.bk k) ∧ (∀ (σ : St) i Ti l t b k, (σ.nlc i Ti l t b).al k = (k == t || σ.al k)) := ⟨fun _ _ _ _ _ _ => rfl, fun _ _ _ _ _ _ _ => rfl, fun _ _ _ _ _ _ _ => rfl⟩
end Go.Proofs.YtikmkgoeepgbkaaGreatDoor.Ev
namespace Go.Proofs.YtikmkgoeepgbkaaGreatDoor.Ev
open Go.RowKit
open Go.Proofs.YtikmkgoeepgbkaaGreatDoor.Mem
set_option linter.unusedVariables false
def Br (p : Prop) (A B : St → Prop) (σ : St) : Prop := (p → A σ) ∧ (¬ p → B σ)
section
variable {P : Program} {L : World → Prop} {E : Nat → Option Elp} {T T' f d i n : Nat} {av av' : List V} {σ σ' : St} {k : St → Prop} {K : V → Prop} {A B : St → Prop} {x x' y y' : V} {bk bk' : Nat → Option Bk} {op : BinOp} {uop : UnOp} {xs : List Operand} {p p' : Prop} {lo lo' hi hi' : Option V}
@[congr] theorem cg_br (h : p = p') (hs : σ = σ') : Br p A B σ = Br p' A B σ' := by rw [h, hs]
@[congr] theorem cg_sq {b : Bool} {A : Ct → St → Prop} {B : St → Prop} {Q : Ct} (hs : σ = σ') : sq b A B Q σ = sq b A B Q σ' := by rw [hs]
@[congr] theorem cg_wk {J : St → Prop} (hs : σ = σ') : Wk J σ = Wk J σ' := by rw [hs]
@[congr] theorem cg_gx {g : Nat} {w : Bool} (h : x = x') (hs : σ = σ') : gspX x g w A B σ = gspX x' g w A B σ' := by rw [h, hs]
@[congr] theorem cg_lp {B : Ct → St → Prop} {Q : Ct} (hs : σ = σ') : lp B Q σ = lp B Q σ' := by rw [hs]
@[congr] theorem cg_call (h : av = av') (hs : σ = σ') : xCall P L f d av σ k = xCall P L f d av' σ' k := by rw [h, hs]
@[congr] theorem cg_callO (h : av = av') (hs : σ = σ') : xCallO P L f d av σ k = xCallO P L f d av' σ' k := by rw [h, hs]
@[congr] theorem cg_callP (h : av = av') (hs : σ = σ') : xCallP P L f d av σ k = xCallP P L f d av' σ' k := by rw [h, hs]
@[congr] theorem cg_callF (hs : σ = σ') : xCallF P L f d xs σ k = xCallF P L f d xs σ' k := by rw [hs]
@[congr] theorem cg_bin {y0 : Operand} (h : x = x') (h' : y = y') : vBinT P T y0 op x y K = vBinT P T y0 op x' y' K := by rw [h, h']
@[congr] theorem cg_binx {y0 : Operand} (h : x = x') (h' : y = y') : vBinX P T y0 op x y K = vBinX P T y0 op x' y' K := by rw [h, h']
@[congr] theorem cg_bin2 (h : x = x') (h' : y = y') : vBin op x y K = vBin op x' y' K := by rw [h, h']
@[congr] theorem cg_un (h : x = x') : vUn uop x K = vUn uop x' K := by rw [h]
@[congr] theorem cg_conv (h : x = x') : vConv P T T' x K = vConv P T T' x' K := by rw [h]
@[congr] theorem cg_ext (h : x = x') : vExt x i K = vExt x' i K := by rw [h]
@[congr] theorem cg_fld (h : x = x') : vField P T x i K = vField P T x' i K := by rw [h]
@[congr] theorem cg_ix (h : x = x') (h' : y = y') : vIndex P T x y K = vIndex P T x' y' K := by rw [h, h']
@[congr] theorem cg_len (h : x = x') : vLen P T x K = vLen P T x' K := by rw [h]
@[congr] theorem cg_ixa (h : x = x') (h' : y = y') : vIxA P T bk x y K = vIxA P T bk x' y' K := by rw [h, h']
@[congr] theorem cg_flda (h : x = x') : vFldA P T x i K = vFldA P T x' i K := by rw [h]
@[congr] theorem cg_load (h : x = x') : vLoad P T bk x K = vLoad P T bk x' K := by rw [h]
@[congr] theorem cg_loadG {L' : World → Prop} (h : x = x') : vLoadG P L' T bk x K = vLoadG P L' T bk x' K := by rw [h]
@[congr] theorem cg_litO {l l' : List V} (h : l = l') (hs : σ = σ') : xLitO P E T d n l σ k = xLitO P E T d n l' σ' k := by rw [h, hs]
@[congr] theorem cg_store (h : x = x') (h' : y = y') : xStore P T x y σ k = xStore P T x' y' σ k := by rw [h, h']
@[congr] theorem cg_ast {ok : Bool} (h : x = x') : vAst P T ok x K = vAst P T ok x' K := by rw [h]
@[congr] theorem cg_nil (h : x = x') : vNil x K = vNil x' K := by rw [h]
@[congr] theorem cg_mki (h : x = x') : vMkI P T x K = vMkI P T x' K := by rw [h]
@[congr] theorem cg_range (h : x = x') (hs : σ = σ') : xRange P T d x σ k = xRange P T d x' σ' k := by rw [h, hs]
@[congr] theorem cg_next (h : x = x') (hs : σ = σ') : xNext d x σ k = xNext d x' σ' k := by rw [h, hs]
end
/-- Rules of interface values and of ranges over texts. -/
theorem eo5 : (∀ (C : Cx) (σ : St) (k : St → Prop) (d : Nat) (x : Operand) (T' T : TypeId) (ok : Bool) (ty : TypeId) (ps : String) (af : Array Edge) (g : Option (Nat × Bool)), exOp C ⟨some d, .typeAssert x T' T ok, ty, ps, af, g⟩ k σ = vAst C.P T ok (σ.rd x) (pk σ d k)) ∧
    (∀ (C : Cx) (σ : St) (k : St → Prop) (d : Nat) (x : Operand) (T' T : TypeId) (ok : Bool) (ty : TypeId) (ps : String) (af : Array Edge) (g : Option (Nat × Bool)), exX C ⟨some d, .typeAssert x T' T ok, ty, ps, af, g⟩ k σ = vAst C.P T ok (σ.rd x) (pk σ d k)) ∧
    (∀ (C : Cx) (σ : St) (k : St → Prop) (d : Nat) (x : Operand) (T : TypeId) (ty : TypeId) (ps : String) (af : Array Edge) (g : Option (Nat × Bool)), exOp C ⟨some d, .makeInterface T x, ty, ps, af, g⟩ k σ = vMkI C.P T (σ.rd x) (pk σ d k)) ∧
    (∀ (C : Cx) (σ : St) (k : St → Prop) (d : Nat) (x : Operand) (T : TypeId) (ty : TypeId) (ps : String) (af : Array Edge) (g : Option (Nat × Bool)), exX C ⟨some d, .makeInterface T x, ty, ps, af, g⟩ k σ = vMkI C.P T (σ.rd x) (pk σ d k)) ∧
    (∀ (C : Cx) (σ : St) (k : St → Prop) (d : Nat) (x : Operand) (ty : TypeId) (ps : String) (af : Array Edge) (g : Option (Nat × Bool)), exOp C ⟨some d, .nilCheck x, ty, ps, af, g⟩ k σ = vNil (σ.rd x) (pk σ d k)) ∧
    (∀ (C : Cx) (σ : St) (k : St → Prop) (d : Nat) (x : Operand) (ty : TypeId) (ps : String) (af : Array Edge) (g : Option (Nat × Bool)), exX C ⟨some d, .nilCheck x, ty, ps, af, g⟩ k σ = vNil (σ.rd x) (pk σ d k)) ∧
    (∀ (K : V → Prop) i o, vNil (.p i o) K = K (.p i o)) ∧ (∀ (K : V → Prop) i z q o, vNil (.pe i z q o) K = K (.pe i z q o)) ∧ (∀ (K : V → Prop) v, vNil (.px v) K = K (.px v)) ∧
    (∀ (C : Cx) (σ : St) (k : St → Prop) (d : Nat) (x : Operand) (T : TypeId) (ty : TypeId) (ps : String) (af : Array Edge) (g : Option (Nat × Bool)), exX C ⟨some d, .range T x, ty, ps, af, g⟩ k σ = xRange C.P T d (σ.rd x) σ k) ∧
    (∀ (C : Cx) (σ : St) (k : St → Prop) (d : Nat) (x : Operand) (ty : TypeId) (ps : String) (af : Array Edge) (g : Option (Nat × Bool)), exX C ⟨some d, .next x true, ty, ps, af, g⟩ k σ = xNext d (σ.rd x) σ k) :=
  ⟨by intros; rfl, by intros; rfl, by intros; rfl, by intros; rfl, by intros; rfl, by intros; rfl, by intros; rfl, by intros; rfl, by intros; rfl, by intros; rfl, by intros; rfl⟩
theorem ev5 : (∀ P T ok t v K, vAst P T ok (.it t v) K = (cncT P T = true ∧ if t = T then K (bif ok then .tp [v, .b true] else v) else ((ok = true ∧ (zc P T).isSome = true) ∧ K (.tp [zv P T, .b false])))) ∧
    (∀ P T ok K, vAst P T ok .inil K = ((cncT P T = true ∧ ok = true ∧ (zc P T).isSome = true) ∧ K (.tp [zv P T, .b false]))) ∧
    (∀ P T x K, vMkI P T x K = (P.concrete T = true ∧ K (.it T x))) ∧
    (∀ P T d l σ k, xRange P T d (.s l) σ k = ((strT P T = true ∧ σ.al d = false) ∧ k (σ.nw d (.p d 0) none (.itr l 0)))) ∧
    (∀ d i σ k, xNext d (.p i 0) σ k = match σ.bk i with
      | some (.itr l p) => Br (p < l.length) (fun σ => k ((σ.setB i (.itr l (p + (dec l p).2))).put d (.tp [.b true, .n .i64 (p : Int), .n .i32 ((dec l p).1 : Int)]))) (fun σ => k (σ.put d (.tp [.b false]))) σ
      | _ => False) ∧
    (∀ al l p, bkM al (.itr l p) = true) ∧ (∀ ρ l p, rnB ρ (.itr l p) = .itr l p) ∧ (∀ ids bk l p, fzB ids bk (.itr l p) = .itr l p) := by
  refine ⟨fun P T ok t v K => ?_, by intros; rfl, by intros; rfl, by intros; rfl, by intros; rfl, by intros; rfl, by intros; rfl, by intros; rfl⟩
  simp only [vAst]
  by_cases e : t = T
  · rw [if_pos e]
    exact propext ⟨fun ⟨h1, h2, _⟩ => ⟨h1, h2 e⟩, fun ⟨h1, h2⟩ => ⟨h1, fun _ => h2, fun h => absurd e h⟩⟩
  · rw [if_neg e]
    exact propext ⟨fun ⟨h1, _, h2⟩ => ⟨h1, h2 e⟩, fun ⟨h1, h2⟩ => ⟨h1, fun h => absurd h e, fun _ => h2⟩⟩
end Go.Proofs.YtikmkgoeepgbkaaGreatDoor.Ev
namespace Go.Proofs.YtikmkgoeepgbkaaGreatDoor.Ev
open Go.RowKit
open Go.Proofs.YtikmkgoeepgbkaaGreatDoor.Mem
set_option linter.unusedVariables false
set_option linter.unusedSimpArgs false
set_option maxRecDepth 100000
mutual
theorem le_men : ∀ (v v' : V), le v v' → (∀ i, men v' i = false) → ∀ i, men v i = false
  | .ag l, v', h, hm, i => by
    rcases le_alt h with (rfl | ⟨h1, _⟩) | ⟨l1, l', h1, rfl, h3⟩
    · exact hm i
    · cases h1
    · cases h1
      simp only [men] at hm ⊢
      exact leL_men l l' h3 hm i
  | v, v', h, hm, i => by
    rcases le_alt h with (rfl | ⟨rfl, _⟩) | ⟨l1, l', rfl, rfl, h3⟩
    · exact hm i
    · rfl
    · simp only [men] at hm ⊢
      exact leL_men l1 l' h3 hm i
theorem leL_men : ∀ (l l' : List V), leL l l' → (∀ i, menL l' i = false) → ∀ i, menL l i = false
  | [], _, _, _, _ => rfl
  | x :: l, [], h, _, _ => h.elim
  | x :: l, y :: l', h, hm, i => by
    have h1 : ∀ i, men y i = false ∧ menL l' i = false := fun i => by have := hm i; simpa [menL] using this
    simp only [menL, Bool.or_eq_false_iff]
    exact ⟨le_men x y h.1 (fun i => (h1 i).1) i, leL_men l l' h.2 (fun i => (h1 i).2) i⟩
end
section
variable {P : Program} {L : World → Prop} {f d : Nat} {av bs : List V} {r : V} {rb : List Bk} {σ : St} {k : St → Prop} {xs : List Operand}
theorem cl (h : Spec P L f av r) (hk : k (σ.put d r)) (hm : ∀ i, menL av i = false := by intro i; rfl) : xCall P L f d av σ k ∨ xCallO P L f d av σ k ∨ xCallF P L f d xs σ k ∨ xCallP P L f d av σ k := .inl ⟨av, r, .inl ⟨hm, leL_refl _⟩, h, hk⟩
theorem cd (h : Spec P L f av r) (hk : k (σ.put d r)) (hm : ∀ i, menL av i = false := by intro i; rfl) : xCall P L f d av σ k := ⟨av, r, .inl ⟨hm, leL_refl _⟩, h, hk⟩
/-- Nil slices are read as empty ones. -/
theorem cln (h : Spec P L f bs r) (hle : leL av bs) (hk : k (σ.put d r)) (hm : ∀ i, menL av i = false := by intro i; rfl) : xCall P L f d av σ k ∨ xCallO P L f d av σ k ∨ xCallF P L f d xs σ k ∨ xCallP P L f d av σ k := .inl ⟨bs, r, .inl ⟨hm, hle⟩, h, hk⟩
theorem cdn (h : Spec P L f bs r) (hle : leL av bs) (hk : k (σ.put d r)) (hm : ∀ i, menL av i = false := by intro i; rfl) : xCall P L f d av σ k := ⟨bs, r, .inl ⟨hm, hle⟩, h, hk⟩
/-- Own rows are read by what hands back a plain value. -/
theorem cv (h : Spec P L f bs r) (hf : flat r = true) (hle : leL (vwL σ.bk av) bs) (hk : k (σ.put d r)) : xCall P L f d av σ k ∨ xCallO P L f d av σ k ∨ xCallF P L f d xs σ k ∨ xCallP P L f d av σ k := .inl ⟨bs, r, .inr ⟨hf, hle⟩, h, hk⟩
theorem cdv (h : Spec P L f bs r) (hf : flat r = true) (hle : leL (vwL σ.bk av) bs) (hk : k (σ.put d r)) : xCall P L f d av σ k := ⟨bs, r, .inr ⟨hf, hle⟩, h, hk⟩
/-- Own rows are let go. -/
theorem cf (ids : List Nat) (h : Spec P L f bs r) (hle : leL (xs.map (σ.fz ids).rd) bs) (hm : ∀ i, menL bs i = false) (hk : k ((σ.fz ids).put d r)) : xCall P L f d av σ k ∨ xCallO P L f d av σ k ∨ xCallF P L f d xs σ k ∨ xCallP P L f d av σ k := .inr <| .inr <| .inl fun w0 S m a W ⟨G, F, hR⟩ => ⟨σ.fz ids, ⟨G, _, hR.fz ids⟩, .inl ⟨bs, r, .inl ⟨leL_men _ _ hle hm, hle⟩, h, hk⟩⟩
end
theorem br {p : Prop} {A B : St → Prop} {σ : St} (h1 : p → A σ) (h2 : ¬ p → B σ) : Br p A B σ := ⟨h1, h2⟩
theorem ebr : (∀ x A B (σ : St), cnd (.b x) A B σ = Br (x = true) A B σ) ∧ (∀ x g w A B (σ : St), gsp (.b x) g w A B σ = Br (x = w) (fun σ => A (σ.put g (.b w))) (fun σ => B (σ.put g (.b (!w)))) σ) ∧ (∀ A B (σ : St), Br True A B σ = A σ) ∧ (∀ A B (σ : St), Br False A B σ = B σ) :=
  ⟨fun x A B σ => propext ⟨fun h => ⟨h.1, fun e => h.2 (by simpa using e)⟩, fun h => ⟨h.1, fun e => h.2 (by simp [e])⟩⟩,
   fun x g w A B σ => propext ⟨fun h => ⟨h.1, fun e => h.2 (by cases x <;> cases w <;> first | rfl | exact absurd rfl e)⟩, fun h => ⟨h.1, fun e => h.2 (by cases x <;> cases w <;> first | (intro e'; cases e'; done) | cases e)⟩⟩,
   fun A B σ => propext ⟨fun h => h.1 trivial, fun h => ⟨fun _ => h, fun e => absurd trivial e⟩⟩, fun A B σ => propext ⟨fun h => h.2 id, fun h => ⟨fun e => e.elim, fun _ => h⟩⟩⟩
theorem rng : List.range 0 = [] ∧ List.range 1 = [0] ∧ List.range 2 = [0, 1] ∧ List.range 3 = [0, 1, 2] ∧ List.range 4 = [0, 1, 2, 3] ∧ List.range 5 = [0, 1, 2, 3, 4] := ⟨rfl, rfl, rfl, rfl, rfl, rfl⟩
theorem ler : ∀ v, le v v = True := fun v => eq_true (le_refl v)
theorem lenl : ∀ (z : Nat) (α : Type) (d : α) (e : α → V), le .nl (.sl z α d [] e) = True := fun z α d e => eq_true (.inr ⟨rfl, z, α, d, e, rfl⟩)
theorem sdl {p q : Prop} (h : p) : (p ∧ q) = q := propext ⟨fun h => h.2, fun hq => ⟨h, hq⟩⟩
theorem one_arg {xs : Array Value} (h : xs.size = 1) : ∃ v, xs = #[v] := ⟨xs[0], by
  apply Array.ext
  · simpa using h
  · intro i h1 h2
    have : i = 0 := by simp at h2; omega
    subst this
    rfl⟩
theorem two_arg {xs : Array Value} (h : xs.size = 2) : ∃ v u, xs = #[v, u] := ⟨xs[0], xs[1], by
  apply Array.ext
  · simpa using h
  · intro i h1 h2
    rcases i with _ | _ | i
    · rfl
    · rfl
    · simp at h2; omega⟩
theorem wr64 {x : Int} (h : -9223372036854775808 ≤ x) (h' : x < 9223372036854775808) : IntKind.wrap .i64 x = x := by
  simp [IntKind.wrap, IntKind.bits, IntKind.signed]; omega
theorem getD_mem {α : Type} {l : List α} {i : Nat} {x : α} (h : i < l.length) : l.getD i x ∈ l := by
  rw [List.getD_eq_getElem?_getD, List.getElem?_eq_getElem h]
  exact List.getElem_mem h
theorem take_at {α : Type} (l : List α) (k : Nat) (d : α) (h : k < l.length) : l.take (k + 1) = l.take k ++ [l.getD k d] := by
  rw [List.take_add_one, List.getD_eq_getElem?_getD, List.getElem?_eq_getElem h]; rfl
theorem drop_at {α : Type} (l : List α) (k : Nat) (x : α) (h : k < l.length) : l.drop k = l.getD k x :: l.drop (k + 1) := by
  rw [List.drop_eq_getElem_cons (by omega), List.getD_eq_getElem?_getD, List.getElem?_eq_getElem (by omega)]; rfl
def cS : V → List UInt8
  | .s l => l
  | _ => []
theorem okS (v : List UInt8) : okE 1 V.s cS (.s v) := ⟨rfl, rfl, rfl, fun _ => rfl⟩
def cB : V → UInt8
  | .n _ x => UInt8.ofNat x.toNat
  | _ => 0
theorem okB (v : UInt8) : okE 1 eB cB (.n .u8 (v.toNat : Int)) := ⟨by simp [cB, eB], rfl, rfl, fun _ => rfl⟩
theorem okU (c : Int) : okE 1 eB cB (.n .u8 (IntKind.wrap .u8 c)) := by
  have h : 0 ≤ IntKind.wrap .u8 c ∧ IntKind.wrap .u8 c < 256 := by simp [IntKind.wrap, IntKind.bits, IntKind.signed]; omega
  generalize IntKind.wrap .u8 c = w at h
  obtain ⟨m, rfl⟩ := Int.eq_ofNat_of_zero_le h.1
  refine ⟨?_, rfl, rfl, fun _ => rfl⟩
  simp only [cB, eB, Int.toNat_natCast]
  rw [show (UInt8.ofNat m).toNat = m from (UInt8.toNat_ofNat' (n := m)).trans (Nat.mod_eq_of_lt (by omega))]
theorem tx_dl (s : List UInt8) : (tx s).data.toList = s := by simp [tx]
theorem wrc : ∀ c : UInt8, IntKind.wrap .i64 (c.toNat : Int) = (c.toNat : Int) := fun c => wr64 (by omega) (by have := c.toNat_lt; omega)
end Go.Proofs.YtikmkgoeepgbkaaGreatDoor.Ev
