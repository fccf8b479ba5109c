/- Structs that are put together; calls. -/
import Derived.Test.YtikmkgoeepgbkaaGreatDoorKB
import Derived.Laws.Tables
import Derived.Orders
set_option linter.all false
namespace Go.Proofs.YtikmkgoeepgbkaaGreatDoor.Ev
open Go.RowKit
open Go.Proofs.YtikmkgoeepgbkaaGreatDoor.Mem
set_option linter.unusedVariables false

def plc (P : Program) (T : Nat) : Option (List (Nat × Nat)) := match kd P T with
  | .struct fs => fs.toList.mapM fun f => (P.info? f.type).map fun i => (f.offset, i.size)
  | .array n e => (P.info? e).map fun i => (List.range n).map fun k => (k * i.size, i.size)
  | _ => none
theorem fill_mono {p1 p2 : Nat → Option (Nat × Nat)} (h : ∀ i x, p1 i = some x → p2 i = some x) : ∀ (l : List (Nat × Value)) (c c' : Array Value), Instr.fill p1 c l = some c' → Instr.fill p2 c l = some c'
  | [], c, c', e => e
  | (i, v) :: r, c, c', e => by
    unfold Instr.fill at e ⊢
    cases e1 : p1 i with
    | none => rw [e1] at e; cases e
    | some x =>
      obtain ⟨off, z⟩ := x
      rw [e1] at e
      rw [h i _ e1]
      dsimp only at e ⊢
      split at e
      · cases e
      · rename_i q
        rw [if_neg q]
        exact fill_mono h r _ _ e
def vFill (pl : List (Nat × Nat)) : List (Nat × V) → List V → (V → Prop) → Prop
  | [], l, K => K (.ag l)
  | (i, v) :: ps, l, K => ((cs v).length = (pl.getD i (0, 0)).2 ∧ (pl.getD i (0, 0)).1 + (cs v).length ≤ l.length ∧ i < pl.length ∧ v ≠ .j) ∧ vFill pl ps (putV l (pl.getD i (0, 0)).1 v) K
def vBuild (P : Program) (T : Nat) (ps : List (Nat × V)) (K : V → Prop) : Prop := ∃ pl zl, plc P T = some pl ∧ zc P T = some zl ∧ vFill pl ps zl K

mutual
/-- A value without references. -/
def flat : V → Bool
  | .b _ => true
  | .n _ _ => true
  | .s _ => true
  | .nl => true
  | .pn => true
  | .inil => true
  | .fn _ => true
  | .ag l => flatL l
  | .tp l => flatL l
  | .it _ v => flat v
  | _ => false
def flatL : List V → Bool
  | [] => true
  | v :: l => flat v && flatL l
end
mutual
/-- How own rows are read. -/
def vw (bk : Nat → Option Bk) : V → V
  | .ow i n => match bk i with
    | some (.row _ z α d l e _) => if n = l.length then .sl z α d l e else .j
    | _ => .j
  | .ag l => .ag (vwL bk l)
  | .tp l => .tp (vwL bk l)
  | .it t v => .it t (vw bk v)
  | .p _ _ => .j
  | .pe _ _ _ _ => .j
  | v => v
def vwL (bk : Nat → Option Bk) : List V → List V
  | [] => []
  | v :: l => vw bk v :: vwL bk l
end

/-- What a call gives. -/
def Spec (P : Program) (L : World → Prop) (f : Nat) (av : List V) (r : V) : Prop :=
  (∃ fn, P.funcs[f]? = some fn ∧ fn.body.isNone = false ∧ (fn.name == "runtime.NumGoroutine") = false) ∧ (∀ k, men r k = false) ∧
  ∀ (S : Nat → Prop) (W : World) (xs : Array Value), L W → xs.size = av.length → (∀ (q : Nat) (y : V) (v : Value), av[q]? = some y → xs[q]? = some v → Rep S W G0 y v) → (∀ g, S g → g < W.heap.size) →
    Calls P f xs W fun e W' => ∃ v F', e = .returned v ∧ Below W.heap.size W W' ∧ (∀ g, F' g → g < W'.heap.size ∧ (W.heap.size ≤ g ∨ S g)) ∧ Rep F' W' G0 r v

mutual
/-- A nil slice is one of no elements. -/
def le : V → V → Prop
  | .ag l, .ag l' => leL l l'
  | x, y => x = y ∨ x = .nl ∧ ∃ z α d e, y = .sl z α d [] e
def leL : List V → List V → Prop
  | [], [] => True
  | x :: l, y :: l' => le x y ∧ leL l l'
  | _, _ => False
end
mutual
theorem le_refl : ∀ v, le v v
  | .ag l => by unfold le; exact leL_refl l
  | .j => .inl rfl
  | .b _ => .inl rfl
  | .n _ _ => .inl rfl
  | .s _ => .inl rfl
  | .nl => .inl rfl
  | .sl _ _ _ _ _ => .inl rfl
  | .px _ => .inl rfl
  | .tp _ => .inl rfl
  | .p _ _ => .inl rfl
  | .pn => .inl rfl
  | .ow _ _ => .inl rfl
  | .pe _ _ _ _ => .inl rfl
  | .it _ _ => .inl rfl
  | .inil => .inl rfl
  | .fn _ => .inl rfl
  | .gl _ _ => .inl rfl
theorem leL_refl : ∀ l, leL l l
  | [] => by unfold leL; trivial
  | x :: l => by unfold leL; exact ⟨le_refl x, leL_refl l⟩
end
theorem le_alt {x y : V} (h : le x y) : (x = y ∨ x = .nl ∧ ∃ z α d e, y = .sl z α d [] e) ∨ ∃ l l', x = .ag l ∧ y = .ag l' ∧ leL l l' := by
  unfold le at h
  split at h
  · exact .inr ⟨_, _, rfl, rfl, h⟩
  · exact .inl h
def xCall (P : Program) (L : World → Prop) (f d : Nat) (av : List V) (σ : St) (k : St → Prop) : Prop :=
  ∃ bs r, ((∀ i, menL av i = false) ∧ leL av bs ∨ flat r = true ∧ leL (vwL σ.bk av) bs) ∧ Spec P L f bs r ∧ k (σ.put d r)

section
variable {P : Program} {L : World → Prop} {o : Oper} {w0 : Bs} {S : Nat → Prop} {m : Nat} {G : Gm} {F F' : Nat → Prop} {σ : St} {a : Act} {W W' : World} {k : St → Prop} {K : V → Prop} {x y : Operand} {T d : Nat} {v : V} {u : Value}
theorem fill_fold (c v : Array Value) (off : Nat) (h : off + v.size ≤ c.size) : (v.zipIdx.foldl (fun (cs : Array Value) (p : Value × Nat) => cs.setIfInBounds (off + p.2) p.1) c).size = c.size ∧
    ∀ q, (v.zipIdx.foldl (fun (cs : Array Value) (p : Value × Nat) => cs.setIfInBounds (off + p.2) p.1) c)[q]? = if q < off then c[q]? else if q < off + v.size then v[q - off]? else c[q]? := by
  obtain ⟨f1, f2⟩ := fold_into v.toList 0 off c (by simpa using h)
  have e : v.zipIdx.foldl (fun (cs : Array Value) (p : Value × Nat) => cs.setIfInBounds (off + p.2) p.1) c = (v.toList.zipIdx 0).foldl (fun (cs : Array Value) (p : Value × Nat) => cs.setIfInBounds (off + p.2) p.1) c := by
    rw [← Array.foldl_toList, Array.toList_zipIdx]
  rw [e]
  refine ⟨f1, fun q => ?_⟩
  rw [f2 q]
  simp only [Nat.add_zero, Array.length_toList, Array.getElem?_toList]
  by_cases c1 : q < off
  · rw [if_neg (by omega), if_pos c1]
  · rw [if_neg c1]
    by_cases c2 : q < off + v.size
    · rw [if_pos ⟨by omega, c2⟩, if_pos c2]
    · rw [if_neg (by omega), if_neg c2]
theorem fill_ok {pl : List (Nat × Nat)} {al : Nat → Bool} : ∀ (ps : List (Nat × Operand)) (l : List V) (c : Array Value), c.size = l.length → (∀ (q : Nat) (y : V) (v : Value), l[q]? = some y → c[q]? = some v → Rep F W G y v) →
    (∀ i, menL l i = true → al i = true) → (∀ p ∈ ps, Rep F W G (σ.rd p.2) (a.eval p.2) ∧ ∀ i, men (σ.rd p.2) i = true → al i = true) → vFill pl (ps.map fun p => (p.1, σ.rd p.2)) l K →
    ∃ l' c', K (.ag l') ∧ Instr.fill (pl.toArray[·]?) c (ps.map fun p => (p.1, a.eval p.2)) = some c' ∧ c'.size = l'.length ∧ (∀ (q : Nat) (y : V) (v : Value), l'[q]? = some y → c'[q]? = some v → Rep F W G y v) ∧ ∀ i, menL l' i = true → al i = true
  | [], l, c, h1, h2, h3, _, h => ⟨l, c, h, rfl, h1, h2, h3⟩
  | (i, o) :: ps, l, c, h1, h2, h3, h4, h => by
    obtain ⟨⟨g1, g2, g3, g4⟩, h⟩ := h
    obtain ⟨k1, k2⟩ := h4 (i, o) (by simp)
    obtain ⟨p1, p2⟩ := cells_rep k1 g4
    have hpl : pl[i]? = some (pl.getD i (0, 0)) := by rw [List.getD_eq_getElem?_getD, List.getElem?_eq_getElem g3]; rfl
    generalize pl.getD i (0, 0) = pp at *
    obtain ⟨off, z⟩ := pp
    have g1 : (cs (σ.rd o)).length = z := g1
    have g2 : off + (cs (σ.rd o)).length ≤ l.length := g2
    obtain ⟨f1, f2⟩ := fill_fold c (a.eval o).cells off (by rw [p1, h1]; exact g2)
    obtain ⟨l', c', r1, r2, r3, r4, r5⟩ := fill_ok ps (putV l off (σ.rd o)) _ (by rw [f1, h1]; simp [putV]; omega) (fun q y v e1 e2 => by
      rw [putV_get g2] at e1
      rw [f2, p1] at e2
      by_cases c1 : q < off
      · rw [if_pos c1] at e1 e2; exact h2 q y v e1 e2
      · rw [if_neg c1] at e1 e2
        by_cases c2 : q < off + (cs (σ.rd o)).length
        · rw [if_pos c2] at e1 e2; exact p2 _ y v e1 e2
        · rw [if_neg c2] at e1 e2; exact h2 q y v e1 e2) (fun j hj => by
      unfold putV at hj
      rw [menL_app, menL_app, Bool.or_eq_true, Bool.or_eq_true] at hj
      rcases hj with (hj | hj) | hj
      · exact h3 j (menL_drop (k := off) (n := 0) (by simpa using hj))
      · exact k2 j (menL_cs hj)
      · refine h3 j (menL_drop (k := l.length) (n := off + (cs (σ.rd o)).length) ?_)
        rw [List.take_of_length_le (by simp)]
        exact hj) (fun p hp => h4 p (by simp [hp])) h
    refine ⟨l', c', r1, ?_, r3, r4, r5⟩
    show (match (pl.toArray[i]?) with
      | none => none
      | some (off, size) => if (a.eval o).cells.size ≠ size || off + (a.eval o).cells.size > c.size then none else Instr.fill (pl.toArray[·]?) ((a.eval o).cells.zipIdx.foldl (fun cs (c, j) => cs.setIfInBounds (off + j) c) c) (ps.map fun p => (p.1, a.eval p.2))) = some c'
    rw [List.getElem?_toArray, hpl]
    simp only
    rw [if_neg (by simp only [ne_eq, Bool.or_eq_true, decide_eq_true_eq, not_or]; exact ⟨by rw [p1, g1]; simp, by rw [p1]; omega⟩)]
    exact r2
theorem build_ok {ps : Array (Nat × Operand)} (ho : o.op = .build T ps) (hR : RelG w0 S m G F σ a W) (h : vBuild P T (ps.toList.map fun p => (p.1, σ.rd p.2)) K) : Yd P σ.al F W G K ((execOp a.eval o).run P W) := by
  obtain ⟨pl, zl, h1, h2, h3⟩ := h
  obtain ⟨inf, zv, hi, hz, hzl⟩ := zc_some h2
  obtain ⟨l', c', r1, r2, r3, r4, r5⟩ := fill_ok (F := F) (W := W) (G := G) (al := σ.al) (a := a) (c := zv.cells) ps.toList zl (by rw [← hzl]; simp) (fun q y v e1 e2 => by
    rw [← hzl, List.getElem?_map, Array.getElem?_toList, e2, Option.map_some, Option.some.injEq] at e1
    rw [← e1]
    exact ofV_rep v) (fun i hi => by
    rw [← hzl] at hi
    have : ∀ l : List Value, menL (l.map ofV) i = false := by
      intro l
      induction l with
      | nil => rfl
      | cons v l ih => simp only [List.map_cons, menL, ofV_men, ih, Bool.or_false]
    rw [this] at hi
    cases hi) (fun p _ => ⟨hR.rd p.2, hR.rd_men p.2⟩) h3
  refine yd_v r1 ?_ (.ag _ _ _ r3 r4) (fun i hi => r5 i (by simpa [men] using hi))
  have hb : P.built T ((ps.map fun x => (x.fst, a.eval x.snd)).toList) = some c' := by
    unfold plc at h1
    split at h1
    · rename_i fs e
      unfold Program.built
      rw [hi, kd_some e (by simp)]
      simp only [hz, h1]
      simpa using r2
    · rename_i n e ek
      cases hie : P.info? e with
      | none => rw [hie] at h1; cases h1
      | some ie =>
        rw [hie, Option.map_some, Option.some.injEq] at h1
        unfold Program.built
        rw [hi, kd_some ek (by simp)]
        simp only [hz, hie]
        refine fill_mono (fun i x hx => ?_) _ _ _ (by simpa using r2)
        rw [← h1] at hx
        simp only [List.getElem?_toArray, List.getElem?_map] at hx
        cases hr : (List.range n)[i]? with
        | none => rw [hr] at hx; cases hx
        | some k =>
          have := (List.getElem?_eq_some_iff.1 hr).2
          simp at this
          subst this
          rw [hr, Option.map_some, Option.some.injEq] at hx
          rw [← hx]
    · cases h1
  unfold execOp
  simp only [ho, Sem.run_bind, run_build (P := P) W T _ c' hb, Result.andThen_ok]
  rfl

theorem flatL_of {l : List V} {q : Nat} {y : V} (h : flatL l = true) (hy : l[q]? = some y) : flat y = true := by
  induction l generalizing q with
  | nil => simp at hy
  | cons w l ih =>
    simp only [flatL, Bool.and_eq_true] at h
    cases q with
    | zero => simp only [List.getElem?_cons_zero, Option.some.injEq] at hy; rw [← hy]; exact h.1
    | succ q => exact ih h.2 (by simpa using hy)
theorem flat_rep (h : Rep F W G v u) (hf : flat v = true) : Rep (fun _ => False) W' G0 v u := by
  induction h with
  | sl => simp [flat] at hf
  | sl0 => simp [flat] at hf
  | px => simp [flat] at hf
  | j => simp [flat] at hf
  | p => simp [flat] at hf
  | pe => simp [flat] at hf
  | ow => simp [flat] at hf
  | ag G l vs hl hr ih => exact .ag _ _ _ hl fun q y v e1 e2 => ih q y v e1 e2 (flatL_of (by simpa [flat] using hf) e1)
  | tp G l vs hl hr ih => exact .tp _ _ _ hl fun q y v e1 e2 => ih q y v e1 e2 (flatL_of (by simpa [flat] using hf) e1)
  | it G t v x h ih => exact .it _ _ _ _ (ih (by simpa [flat] using hf))
  | _ => constructor
/-- What is owned, or read. -/
def Sees (G : Gm) (F : Nat → Prop) (σ : St) (g : Nat) : Prop := F g ∨ ∃ i b, σ.bk i = some b ∧ b.ob G i g
theorem vwL_get {bk : Nat → Option Bk} : ∀ (l : List V) (q : Nat), (vwL bk l)[q]? = (l[q]?).map (vw bk)
  | [], q => by simp [vwL]
  | v :: l, 0 => by simp [vwL]
  | v :: l, q + 1 => by simp [vwL, vwL_get l q]
theorem vwL_len {bk : Nat → Option Bk} : ∀ (l : List V), (vwL bk l).length = l.length
  | [] => rfl
  | v :: l => by simp [vwL, vwL_len l]
theorem row_sl {T z : Nat} {α : Type} {d : α} {l : List α} {e : α → V} {c : V → α} {i n : Nat} (hR : RelG w0 S m G F σ a W) (hb : σ.bk i = some (.row T z α d l e c)) (hn : n = l.length) (h : Rep F W G (.ow i n) u) : Rep (Sees G F σ) W G0 (.sl z α d l e) u := by
  obtain ⟨xs, b1, b2, b3⟩ := hR.blk i _ hb
  obtain ⟨e1, ao, c', e2⟩ := h.ow_inv
  rcases b1.2 with ⟨h5, h6⟩ | ⟨g, cap, cur, h5, k1, k2, k3, k4, k5, k6⟩
  · have : l = [] := List.eq_nil_of_length_eq_zero h6
    subst this
    rw [e1, h5]
    exact .sl0 _ _ _ _ _ _ _
  · rw [e1, h5]
    have hob : (G i).2.ownBlock = some g := by rw [h5]; rfl
    have hel : ∀ (q : Nat) (x : α), l[q]? = some x → ∀ (t : Nat) (y : V), (cs (e x))[t]? = some y → W.cell? ⟨g, 0 + (q * z + t), none⟩ = some (xs.getD (q * z + t) undef) ∧ Rep F W G0 y (xs.getD (q * z + t) undef) := by
      intro q x hq t y ht
      obtain ⟨v, hv, hv2⟩ := (b3 q x hq).2.2 t y ht
      have := b1.cells (g := g) hob (q * z + t) v hv
      rw [add_lit] at this
      rw [List.getD_eq_getElem?_getD, hv]
      exact ⟨this, hv2⟩
    exact .sl G0 z α d l e g 0 cap (fun q t => xs.getD (q * z + t) undef) (.inr ⟨i, _, hb, hob⟩) k3 (fun q x hq => (b3 q x hq).2.1) (fun q x hq => (b3 q x hq).1) (fun q x t y hq ht => (hel q x hq t y ht).1) (fun q x t y hq ht => (hel q x hq t y ht).2.wide fun g hg => .inl hg)
theorem vw_rep (hR : RelG w0 S m G F σ a W) (h : Rep F W G v u) : Rep (Sees G F σ) W G0 (vw σ.bk v) u := by
  generalize hG : G = G' at h
  induction h with
  | ow G1 i n ao c h =>
    subst hG
    simp only [vw]
    split
    · rename_i T z α d l e c' hb
      split
      · rename_i hn
        exact row_sl hR hb hn (.ow _ _ _ _ _ h)
      · exact .j _ _
    · exact .j _ _
  | ag G1 l vs hl hr ih =>
    simp only [vw]
    refine .ag _ _ _ (by rw [vwL_len]; exact hl) fun q y v e1 e2 => ?_
    rw [vwL_get] at e1
    cases hq : l[q]? with
    | none => rw [hq] at e1; cases e1
    | some y' =>
      rw [hq, Option.map_some, Option.some.injEq] at e1
      rw [← e1]
      exact ih q y' v hq e2 hG
  | tp G1 l vs hl hr ih =>
    simp only [vw]
    refine .tp _ _ _ (by rw [vwL_len]; exact hl) fun q y v e1 e2 => ?_
    rw [vwL_get] at e1
    cases hq : l[q]? with
    | none => rw [hq] at e1; cases e1
    | some y' =>
      rw [hq, Option.map_some, Option.some.injEq] at e1
      rw [← e1]
      exact ih q y' v hq e2 hG
  | it G1 t v x h ih => simp only [vw]; exact .it _ _ _ _ (ih hG)
  | p => simp only [vw]; exact .j _ _
  | pe => simp only [vw]; exact .j _ _
  | sl G1 z α d l e g o c u hg hc hn hz hu hr ih => simp only [vw]; exact (Rep.sl G0 z α d l e g o c u hg hc hn hz hu hr).wide fun g hg => .inl hg
  | px G1 v g o u hg hn hu hr ih => simp only [vw]; exact (Rep.px G0 v g o u hg hn hu hr).wide fun g hg => .inl hg
  | _ => simp only [vw]; constructor
mutual
theorem le_rep0 : ∀ (v v' : V) (u : Value), Rep F W G v u → le v v' → Rep F W G v' u
  | .ag l, v', u, h, hl => by
    rcases le_alt hl with (rfl | ⟨h1, _⟩) | ⟨l1, l', h1, rfl, h3⟩
    · exact h
    · cases h1
    · cases h1
      cases h with
      | ag _ _ vs hs hr =>
        obtain ⟨k1, k2⟩ := leL_rep0 l l' h3
        exact .ag _ _ _ (by rw [hs, k1]) fun q y v e1 e2 => by
          obtain ⟨y', e3, e4⟩ := k2 q y e1
          exact e4 v (hr q y' v e3 e2)
  | v, v', u, h, hl => by
    rcases le_alt hl with (rfl | ⟨rfl, z, α, d, e, rfl⟩) | ⟨l1, l', rfl, rfl, h3⟩
    · exact h
    · rw [h.nl_inv]; exact .sl0 _ _ _ _ _ _ _
    · cases h with
      | ag _ _ vs hs hr =>
        obtain ⟨k1, k2⟩ := leL_rep0 l1 l' h3
        exact .ag _ _ _ (by rw [hs, k1]) fun q y v e1 e2 => by
          obtain ⟨y', e3, e4⟩ := k2 q y e1
          exact e4 v (hr q y' v e3 e2)
theorem leL_rep0 : ∀ (l l' : List V), leL l l' → l.length = l'.length ∧ ∀ (q : Nat) (y : V), l'[q]? = some y → ∃ y', l[q]? = some y' ∧ ∀ v, Rep F W G y' v → Rep F W G y v
  | [], [], _ => ⟨rfl, fun q y h => by simp at h⟩
  | x :: l, y :: l', h => by
    unfold leL at h
    obtain ⟨h1, h2⟩ := leL_rep0 l l' h.2
    refine ⟨by simp [h1], fun q z hz => ?_⟩
    cases q with
    | zero => simp at hz; subst hz; exact ⟨x, rfl, fun v hv => le_rep0 x _ v hv h.1⟩
    | succ q => simpa using h2 q z (by simpa using hz)
  | [], _ :: _, h => by unfold leL at h; exact h.elim
  | _ :: _, [], h => by unfold leL at h; exact h.elim
end
theorem le_rep {v' : V} (h : Rep F W G v u) (hl : le v v') : Rep F W G v' u := le_rep0 v v' u h hl
theorem leL_get : ∀ {l l' : List V} (h : leL l l'), l.length = l'.length ∧ ∀ (q : Nat) (y : V), l'[q]? = some y → ∃ y', l[q]? = some y' ∧ le y' y
  | [], [], _ => ⟨rfl, fun q y h => by simp at h⟩
  | x :: l, [], h => h.elim
  | [], y :: l', h => h.elim
  | x :: l, y :: l', h => by
    obtain ⟨h1, h2⟩ := leL_get h.2
    refine ⟨by simp [h1], fun q z hz => ?_⟩
    cases q with
    | zero => simp only [List.getElem?_cons_zero, Option.some.injEq] at hz; exact ⟨x, rfl, by rw [← hz]; exact h.1⟩
    | succ q => exact h2 q z (by simpa using hz)
theorem run_call {f : Nat} {xs : Array Operand} {ts : Array TypeId} {fn : Func} (ho : o.op = .call { callee := .value (.func f), args := xs, argTypes := ts }) (hf : P.funcs[f]? = some fn) (hb : fn.body.isNone = false) (hn : (fn.name == "runtime.NumGoroutine") = false) :
    (execOp a.eval o).run P W = .ok (.enter f (xs.map a.eval)) W := by
  unfold execOp
  simp only [ho]
  have hf' : a.eval (.func f) = .func (.func f) #[] #[] := rfl
  have hn' : ¬ fn.name = "runtime.NumGoroutine" := by simpa using hn
  have hb' : ¬ fn.body = none := fun e => by rw [e] at hb; cases hb
  generalize a.eval = g at *
  simp [resolve, hf', Deferred.ofValue, invoke, callFunc, hf, hb', hn']
theorem call_ok {f : Nat} {xs : Array Operand} {ts : Array TypeId} (ho : o.op = .call { callee := .value (.func f), args := xs, argTypes := ts }) (hd : o.dst = some d) (hdm : d < m) (hR : RelG w0 S m G F σ a W) (hL : L W) (h : xCall P L f d (xs.toList.map σ.rd) σ k) : Eff P w0 S m o k a W := by
  obtain ⟨bs, r, hmode, ⟨⟨fn, f1, f2, f3⟩, hn, hS⟩, hk⟩ := h
  intro Kc Q hK
  unfold Oper.wp
  rw [run_call (P := P) (W := W) ho f1 f2 f3, Oper.upon_enter, hd]
  have hargs : ∀ (q : Nat) (y : V) (v : Value), (xs.toList.map σ.rd)[q]? = some y → (xs.map a.eval)[q]? = some v → Rep F W G y v := by
    intro q y v e1 e2
    rw [List.getElem?_map, Array.getElem?_toList] at e1
    rw [Array.getElem?_map] at e2
    cases hx : xs[q]? with
    | none => rw [hx] at e1; cases e1
    | some x =>
      rw [hx, Option.map_some, Option.some.injEq] at e1 e2
      rw [← e1, ← e2]
      exact hR.rd x
  rcases hmode with ⟨h1, h2⟩ | ⟨h1, h2⟩
  · obtain ⟨l1, l2⟩ := leL_get h2
    refine (hS F W (xs.map a.eval) hL (by rw [← l1]; simp) (fun q y v e1 e2 => ?_) (fun g hg => (hR.fin g hg).1)).mono ?_
    · obtain ⟨y', e3, e4⟩ := l2 q y e1
      refine le_rep ((hargs q y' v e3 e2).ren fun i hi => ?_) e4
      have := menL_of e3 hi
      rw [h1 i] at this
      cases this
    · rintro e W' ⟨v, F', rfl, hb, hF', hr⟩
      exact hK _ _ _ hk ⟨G, _, hR.called hdm hb F' hF' hr hn⟩
  · obtain ⟨l1, l2⟩ := leL_get h2
    refine (hS (Sees G F σ) W (xs.map a.eval) hL (by rw [← l1, vwL_len]; simp) (fun q y v e1 e2 => ?_) (fun g hg => ?_)).mono ?_
    · obtain ⟨y', e3, e4⟩ := l2 q y e1
      rw [vwL_get] at e3
      cases hq : (xs.toList.map σ.rd)[q]? with
      | none => rw [hq] at e3; cases e3
      | some y2 =>
        rw [hq, Option.map_some, Option.some.injEq] at e3
        subst e3
        exact le_rep (vw_rep hR (hargs q y2 v hq e2)) e4
    · rcases hg with hg | ⟨i, b, h1, h2⟩
      · exact (hR.fin g hg).1
      · exact (hR.own i b g h1 h2).2.1
    · rintro e W' ⟨v, F', rfl, hb, hF', hr⟩
      exact hK _ _ _ hk ⟨G, _, hR.called hdm hb (fun _ => False) (fun g hg => hg.elim) (flat_rep hr h1) hn⟩
end
end Go.Proofs.YtikmkgoeepgbkaaGreatDoor.Ev
namespace Go.Proofs.YtikmkgoeepgbkaaGreatDoor.Ev
open Go.RowKit
open Go.Proofs.YtikmkgoeepgbkaaGreatDoor.Mem
set_option linter.unusedVariables false

def isRw : Bk → Bool
  | .cells _ _ => false
  | .row _ _ _ _ _ _ _ => true
  | .itr _ _ => false
def inI (i : Nat) : List Nat → Bool
  | [] => false
  | k :: l => decide (i = k) || inI i l
mutual
/-- How a value is read when these rows are let go. -/
def fz (ids : List Nat) (bk : Nat → Option Bk) : V → V
  | .ow i n => bif inI i ids then (match bk i with
    | some (.row _ z α d l e _) => if n = l.length then .sl z α d l e else .j
    | _ => .j) else .ow i n
  | .pe i z q o => bif inI i ids then .j else .pe i z q o
  | .ag l => .ag (fzL ids bk l)
  | .tp l => .tp (fzL ids bk l)
  | .it t v => .it t (fz ids bk v)
  | v => v
def fzL (ids : List Nat) (bk : Nat → Option Bk) : List V → List V
  | [] => []
  | v :: l => fz ids bk v :: fzL ids bk l
end
def fzB (ids : List Nat) (bk : Nat → Option Bk) : Bk → Bk
  | .cells T l => .cells T (fzL ids bk l)
  | b => b
def St.fz (σ : St) (ids : List Nat) : St :=
  { sl := fun t => Ev.fz ids σ.bk (σ.sl t)
    bk := fun i => bif inI i ids then (match σ.bk i with
      | some b => bif isRw b then none else some (fzB ids σ.bk b)
      | none => none) else (σ.bk i).map (fzB ids σ.bk)
    al := σ.al }
theorem fzL_get {ids : List Nat} {bk : Nat → Option Bk} : ∀ (l : List V) (q : Nat), (fzL ids bk l)[q]? = (l[q]?).map (fz ids bk)
  | [], q => by simp [fzL]
  | v :: l, 0 => by simp [fzL]
  | v :: l, q + 1 => by simp [fzL, fzL_get l q]
theorem fzL_len {ids : List Nat} {bk : Nat → Option Bk} : ∀ (l : List V), (fzL ids bk l).length = l.length
  | [] => rfl
  | v :: l => by simp [fzL, fzL_len l]
mutual
theorem men_fz {ids : List Nat} {bk : Nat → Option Bk} (i : Nat) : ∀ (v : V), men (fz ids bk v) i = true → men v i = true
  | .ow a n, h => by
    unfold fz at h
    cases e : inI a ids with
    | false => rw [e] at h; exact h
    | true =>
      rw [e] at h
      simp only [cond_true] at h
      split at h
      · split at h <;> simp [men] at h
      · simp [men] at h
  | .pe a z q o, h => by
    unfold fz at h
    cases e : inI a ids with
    | false => rw [e] at h; exact h
    | true => rw [e] at h; simp [men] at h
  | .ag l, h => by simp only [fz, men] at h ⊢; exact menL_fz i l h
  | .tp l, h => by simp only [fz, men] at h ⊢; exact menL_fz i l h
  | .it t v, h => by simp only [fz, men] at h ⊢; exact men_fz i v h
  | .j, h => h
  | .b _, h => h
  | .n _ _, h => h
  | .s _, h => h
  | .nl, h => h
  | .sl _ _ _ _ _, h => h
  | .px _, h => h
  | .p _ _, h => h
  | .pn, h => h
  | .inil, h => h
  | .fn _, h => h
  | .gl _ _, h => h
theorem menL_fz {ids : List Nat} {bk : Nat → Option Bk} (i : Nat) : ∀ (l : List V), menL (fzL ids bk l) i = true → menL l i = true
  | [], h => h
  | v :: l, h => by
    simp only [fzL, menL, Bool.or_eq_true] at h ⊢
    rcases h with h | h
    · exact .inl (men_fz i v h)
    · exact .inr (menL_fz i l h)
end
def Fz (G : Gm) (F : Nat → Prop) (σ : St) (ids : List Nat) (g : Nat) : Prop := F g ∨ ∃ i b, inI i ids = true ∧ σ.bk i = some b ∧ isRw b = true ∧ b.ob G i g
section
variable {w0 : Bs} {S : Nat → Prop} {m : Nat} {G : Gm} {F : Nat → Prop} {σ : St} {a : Act} {W : World} {u : Value} {v : V} {ids : List Nat}
theorem row_fz {T z : Nat} {α : Type} {d : α} {l : List α} {e : α → V} {c : V → α} {i n : Nat} {G' : Gm} (hR : RelG w0 S m G F σ a W) (hi : inI i ids = true) (hb : σ.bk i = some (.row T z α d l e c)) (hn : n = l.length) (h : Rep F W G (.ow i n) u) : Rep (Fz G F σ ids) W G' (.sl z α d l e) u := by
  obtain ⟨xs, b1, b2, b3⟩ := hR.blk i _ hb
  obtain ⟨e1, ao, c', e2⟩ := h.ow_inv
  rcases b1.2 with ⟨h5, h6⟩ | ⟨g, cap, cur, h5, k1, k2, k3, k4, k5, k6⟩
  · have : l = [] := List.eq_nil_of_length_eq_zero h6
    subst this
    rw [e1, h5]
    exact .sl0 _ _ _ _ _ _ _
  · rw [e1, h5]
    have hob : (G i).2.ownBlock = some g := by rw [h5]; rfl
    have hel : ∀ (q : Nat) (x : α), l[q]? = some x → ∀ (t : Nat) (y : V), (cs (e x))[t]? = some y → W.cell? ⟨g, 0 + (q * z + t), none⟩ = some (xs.getD (q * z + t) undef) ∧ Rep F W G0 y (xs.getD (q * z + t) undef) := by
      intro q x hq t y ht
      obtain ⟨v, hv, hv2⟩ := (b3 q x hq).2.2 t y ht
      have := b1.cells (g := g) hob (q * z + t) v hv
      rw [add_lit] at this
      rw [List.getD_eq_getElem?_getD, hv]
      exact ⟨this, hv2⟩
    exact .sl G' z α d l e g 0 cap (fun q t => xs.getD (q * z + t) undef) (.inr ⟨i, _, hi, hb, rfl, hob⟩) k3 (fun q x hq => (b3 q x hq).2.1) (fun q x hq => (b3 q x hq).1) (fun q x t y hq ht => (hel q x hq t y ht).1) (fun q x t y hq ht => (hel q x hq t y ht).2.wide fun g hg => .inl hg)
theorem fz_rep (hR : RelG w0 S m G F σ a W) (h : Rep F W G v u) : Rep (Fz G F σ ids) W G (fz ids σ.bk v) u := by
  generalize hG : G = G' at h
  induction h with
  | ow G1 i n ao c h =>
    subst hG
    simp only [fz]
    cases e : inI i ids with
    | false => exact .ow _ _ _ _ _ h
    | true =>
      simp only [cond_true]
      split
      · rename_i T z α d l e' c' hb
        split
        · rename_i hn
          exact row_fz hR e hb hn (.ow _ _ _ _ _ h)
        · exact .j _ _
      · exact .j _ _
  | ag G1 l vs hl hr ih =>
    simp only [fz]
    refine .ag _ _ _ (by rw [fzL_len]; exact hl) fun q y v e1 e2 => ?_
    rw [fzL_get] at e1
    cases hq : l[q]? with
    | none => rw [hq] at e1; cases e1
    | some y' =>
      rw [hq, Option.map_some, Option.some.injEq] at e1
      rw [← e1]
      exact ih q y' v hq e2 hG
  | tp G1 l vs hl hr ih =>
    simp only [fz]
    refine .tp _ _ _ (by rw [fzL_len]; exact hl) fun q y v e1 e2 => ?_
    rw [fzL_get] at e1
    cases hq : l[q]? with
    | none => rw [hq] at e1; cases e1
    | some y' =>
      rw [hq, Option.map_some, Option.some.injEq] at e1
      rw [← e1]
      exact ih q y' v hq e2 hG
  | it G1 t v x h ih => simp only [fz]; exact .it _ _ _ _ (ih hG)
  | p => exact .p _ _ _
  | pe G1 i z q o =>
    simp only [fz]
    cases e : inI i ids with
    | false => exact .pe _ _ _ _ _
    | true => exact .j _ _
  | sl G1 z α d l e g o c u hg hc hn hz hu hr ih => exact (Rep.sl _ z α d l e g o c u hg hc hn hz hu hr).wide fun g hg => .inl hg
  | px G1 v g o u hg hn hu hr ih => exact (Rep.px _ v g o u hg hn hu hr).wide fun g hg => .inl hg
  | _ => simp only [fz]; constructor
theorem fz_bk {i : Nat} {b : Bk} (h : (σ.fz ids).bk i = some b) : ∃ b0, σ.bk i = some b0 ∧ b = fzB ids σ.bk b0 ∧ (inI i ids = true → isRw b0 = false) := by
  simp only [St.fz] at h
  cases e : inI i ids with
  | false =>
    rw [e] at h
    simp only [cond_false] at h
    obtain ⟨b0, h1, h2⟩ := Option.map_eq_some_iff.1 h
    exact ⟨b0, h1, h2.symm, fun h => by cases h⟩
  | true =>
    rw [e] at h
    simp only [cond_true] at h
    split at h
    · rename_i b0 hb
      cases e2 : isRw b0 with
      | true => rw [e2] at h; cases h
      | false => rw [e2] at h; exact ⟨b0, hb, (Option.some.inj h).symm, fun _ => e2⟩
    · cases h
theorem ob_fz {i g : Nat} {b : Bk} {bk : Nat → Option Bk} : (fzB ids bk b).ob G i g ↔ b.ob G i g := by cases b <;> rfl
theorem RelG.fz (hR : RelG w0 S m G F σ a W) (ids : List Nat) : RelG w0 S m G (Fz G F σ ids) (σ.fz ids) a W := by
  refine ⟨hR.below, hR.size, fun t => fz_rep hR (hR.slot t), fun i b hb => ?_, fun i b g hb hg => ?_, fun i i' b b' g hii hb hb' hg hg' => ?_, fun g hg => ?_, hR.defers, fun t i hi => hR.wf t i (men_fz i _ hi), fun i b hb => ?_, hR.fix, hR.mlt⟩
  · obtain ⟨b0, h1, rfl, _⟩ := fz_bk hb
    have h2 := hR.blk i _ h1
    cases b0 with
    | cells T l =>
      obtain ⟨c, k1, k2, k3⟩ := h2
      refine ⟨c, k1, by rw [fzL_len]; exact k2, fun q y v e1 e2 => ?_⟩
      rw [fzL_get] at e1
      cases hq : l[q]? with
      | none => rw [hq] at e1; cases e1
      | some y' =>
        rw [hq, Option.map_some, Option.some.injEq] at e1
        rw [← e1]
        exact fz_rep hR (k3 q y' v hq e2)
    | row T z α d l e c => exact h2.wide fun g => .inl
    | itr l p => exact h2
  · obtain ⟨b0, h1, rfl, h3⟩ := fz_bk hb
    have hg := ob_fz.1 hg
    obtain ⟨k1, k2, k3⟩ := hR.own i b0 g h1 hg
    refine ⟨k1, k2, fun hs => ?_⟩
    rcases hs with hs | ⟨i', b', q1, q2, q3, q4⟩
    · exact k3 hs
    · by_cases e : i = i'
      · subst e
        rw [h1] at q2
        obtain rfl := Option.some.inj q2
        rw [h3 q1] at q3
        cases q3
      · exact hR.apart i i' b0 b' g e h1 q2 hg q4
  · obtain ⟨b0, h1, rfl, _⟩ := fz_bk hb
    obtain ⟨b0', h1', rfl, _⟩ := fz_bk hb'
    exact hR.apart i i' b0 b0' g hii h1 h1' (ob_fz.1 hg) (ob_fz.1 hg')
  · rcases hg with hg | ⟨i, b, h0, h1, h2, h3⟩
    · exact hR.fin g hg
    · obtain ⟨k1, k2, k3⟩ := hR.own i b g h1 h3
      exact ⟨k2, .inl k1⟩
  · obtain ⟨b0, h1, rfl, _⟩ := fz_bk hb
    obtain ⟨k1, k2⟩ := hR.wfb i b0 h1
    refine ⟨k1, fun k hk => k2 k ?_⟩
    cases b0 with
    | cells T l => exact menL_fz k l hk
    | row => cases hk
    | itr => cases hk
theorem Eff.fz {P : Program} {o : Oper} {k : St → Prop} (ids : List Nat) (hR : RelG w0 S m G F σ a W) (h : RelG w0 S m G (Fz G F σ ids) (σ.fz ids) a W → Eff P w0 S m o k a W) : Eff P w0 S m o k a W := h (hR.fz ids)
end
mutual
theorem fz_id {ids : List Nat} {bk : Nat → Option Bk} : ∀ (v : V), (∀ i, men v i = true → inI i ids = false) → fz ids bk v = v
  | .ow a n, h => by
    unfold fz
    rw [h a (by simp [men])]; rfl
  | .pe a z q o, h => by
    unfold fz
    rw [h a (by simp [men])]; rfl
  | .ag l, h => by simp only [fz]; rw [fzL_id l (fun i hi => h i (by simpa only [men] using hi))]
  | .tp l, h => by simp only [fz]; rw [fzL_id l (fun i hi => h i (by simpa only [men] using hi))]
  | .it t v, h => by simp only [fz]; rw [fz_id v (fun i hi => h i (by simpa only [men] using hi))]
  | .j, _ => rfl
  | .b _, _ => rfl
  | .n _ _, _ => rfl
  | .s _, _ => rfl
  | .nl, _ => rfl
  | .sl _ _ _ _ _, _ => rfl
  | .px _, _ => rfl
  | .p _ _, _ => rfl
  | .pn, _ => rfl
  | .inil, _ => rfl
  | .fn _, _ => rfl
  | .gl _ _, _ => rfl
theorem fzL_id {ids : List Nat} {bk : Nat → Option Bk} : ∀ (l : List V), (∀ i, menL l i = true → inI i ids = false) → fzL ids bk l = l
  | [], _ => rfl
  | v :: l, h => by
    simp only [fzL]
    rw [fz_id v (fun i hi => h i (by simp [menL, hi])), fzL_id l (fun i hi => h i (by simp [menL, hi]))]
end
/-- A literal that is only read. -/
def xLitR (P : Program) (E : Nat → Option Elp) (T d n : Nat) (l : List V) (σ : St) (k : St → Prop) : Prop :=
  ∃ t h zl, (sle P T = some t ∧ E t = some h ∧ sz P t = some h.z ∧ zc P t = some zl ∧ zl.length = h.z) ∧ (n = l.length ∧ n * h.z ≤ 16777216 ∧ 0 < h.z) ∧ (∀ v ∈ l, okE h.z h.e h.c v) ∧ σ.al d = false ∧
    k (σ.put d (.sl h.z h.α h.d (l.map h.c) h.e))
section
variable {P : Program} {o : Oper} {w0 : Bs} {S : Nat → Prop} {m : Nat} {G : Gm} {F : Nat → Prop} {σ : St} {a : Act} {W : World} {k : St → Prop} {T d : Nat} {E : Nat → Option Elp}
theorem litR_ok {n : Nat} {ps : Array (Nat × Operand)} (ho : o.op = .buildSlice T n ps) (hps : ps.toList.map (·.1) = List.range n) (hd : o.dst = some d) (hdm : d < m) (hR : RelG w0 S m G F σ a W) (h : xLitR P E T d n (ps.toList.map fun p => σ.rd p.2) σ k) : Eff P w0 S m o k a W := by
  obtain ⟨t, h, zl, h1, h2, h3, h4, h5⟩ := h
  intro Kc Q hK
  refine lit_ok (k := fun τ => τ = σ.nw d (.ow d n) none (.row t h.z h.α h.d ((ps.toList.map fun p => σ.rd p.2).map h.c) h.e h.c)) ho hps hd hdm hR ⟨t, h, zl, h1, h2, h3, h4, rfl⟩ Kc Q fun σ' a' W' hτ ⟨G', F', hR'⟩ => ?_
  subst hτ
  have hZ := hR'.fz [d]
  have nd : ∀ v : V, (∀ i, men v i = true → σ.al i = true) → ∀ i, men v i = true → inI i [d] = false := fun v hv i hi => by
    have := hv i hi
    simp only [inI, Bool.or_false, decide_eq_false_iff_not]
    intro e
    rw [e, h4] at this
    cases this
  have hn : n = ((ps.toList.map fun p => σ.rd p.2).map h.c).length := by rw [h2.1]; simp
  have hsl : ∀ q, ((σ.nw d (.ow d n) none (.row t h.z h.α h.d ((ps.toList.map fun p => σ.rd p.2).map h.c) h.e h.c)).fz [d]).sl q = ((σ.put d (.sl h.z h.α h.d ((ps.toList.map fun p => σ.rd p.2).map h.c) h.e)).sl q) := fun q => by
    simp only [St.fz, St.nw, St.put]
    by_cases e : q = d
    · rw [if_pos e, if_pos e]
      simp only [fz, inI, decide_true, Bool.or_false, cond_true, if_true]
      rw [if_pos hn]
    · rw [if_neg e, if_neg e]
      exact fz_id _ (nd _ (hR.wf q))
  have hbk : ∀ i b, (σ.put d (.sl h.z h.α h.d ((ps.toList.map fun p => σ.rd p.2).map h.c) h.e)).bk i = some b → ((σ.nw d (.ow d n) none (.row t h.z h.α h.d ((ps.toList.map fun p => σ.rd p.2).map h.c) h.e h.c)).fz [d]).bk i = some b := fun i b hb => by
    simp only [St.put] at hb
    have hid : i ≠ d := fun e => by
      have := (hR.wfb i b hb).1
      rw [e, h4] at this
      cases this
    simp only [St.fz, St.nw, inI, Bool.or_false, decide_eq_false hid, cond_false, if_neg hid]
    simp only [reduceCtorEq, if_false, hb, Option.map_some, Option.some.injEq]
    cases b with
    | row => rfl
    | itr => rfl
    | cells T l =>
      simp only [fzB]
      rw [fzL_id l fun i' hi' => nd (.ag l) (fun q hq => (hR.wfb i _ hb).2 q (by simpa [men, Bk.men] using hq)) i' (by simpa [men] using hi')]
  refine hK _ _ _ h5 ⟨G', _, hZ.below, hZ.size, fun t => ?_, fun i b hb => hZ.blk i b (hbk i b hb), fun i b g hb hg => hZ.own i b g (hbk i b hb) hg, fun i i' b b' g hii hb hb' => hZ.apart i i' b b' g hii (hbk i b hb) (hbk i' b' hb'), hZ.fin, hZ.defers, fun t i hi => ?_, fun i b hb => hR.wfb i b hb, hZ.fix, hZ.mlt⟩
  · have := hZ.slot t
    rw [hsl] at this
    exact this
  · simp only [St.put] at hi ⊢
    by_cases e : t = d
    · rw [if_pos e] at hi; cases hi
    · rw [if_neg e] at hi; exact hR.wf t i hi
end
/-- The rules. -/
theorem efz : (∀ (σ : St) ids t, (σ.fz ids).sl t = Ev.fz ids σ.bk (σ.sl t)) ∧ (∀ (σ : St) ids i, (σ.fz ids).bk i = bif inI i ids then (match σ.bk i with
      | some b => bif isRw b then none else some (fzB ids σ.bk b)
      | none => none) else (σ.bk i).map (fzB ids σ.bk)) ∧ (∀ (σ : St) ids i, (σ.fz ids).al i = σ.al i) ∧
    (∀ ids bk T l, fzB ids bk (.cells T l) = .cells T (fzL ids bk l)) ∧ (∀ ids bk T z (α : Type) (d : α) (l : List α) (e : α → V) (c : V → α), fzB ids bk (.row T z α d l e c) = .row T z α d l e c) ∧
    (∀ T l, isRw (.cells T l) = false) ∧ (∀ T z (α : Type) (d : α) (l : List α) (e : α → V) (c : V → α), isRw (.row T z α d l e c) = true) ∧ (∀ i, inI i [] = false) ∧ (∀ i k l, inI i (k :: l) = (decide (i = k) || inI i l)) ∧
    (∀ ids bk, fzL ids bk [] = []) ∧ (∀ ids bk v l, fzL ids bk (v :: l) = fz ids bk v :: fzL ids bk l) ∧
    (∀ ids bk i n, fz ids bk (.ow i n) = bif inI i ids then (match bk i with
      | some (.row _ z α d l e _) => if n = l.length then .sl z α d l e else .j
      | _ => .j) else .ow i n) ∧ (∀ ids bk i z q o, fz ids bk (.pe i z q o) = bif inI i ids then .j else .pe i z q o) ∧ (∀ ids bk l, fz ids bk (.ag l) = .ag (fzL ids bk l)) ∧ (∀ ids bk l, fz ids bk (.tp l) = .tp (fzL ids bk l)) ∧ (∀ ids bk t v, fz ids bk (.it t v) = .it t (fz ids bk v)) ∧
    (∀ ids bk, fz ids bk .j = .j) ∧ (∀ ids bk x, fz ids bk (.b x) = .b x) ∧ (∀ ids bk k x, fz ids bk (.n k x) = .n k x) ∧ (∀ ids bk l, fz ids bk (.s l) = .s l) ∧ (∀ ids bk, fz ids bk .nl = .nl) ∧ (∀ ids bk z (α : Type) (d : α) (l : List α) (e : α → V), fz ids bk (.sl z α d l e) = .sl z α d l e) ∧ (∀ ids bk v, fz ids bk (.px v) = .px v) ∧
    (∀ ids bk i o, fz ids bk (.p i o) = .p i o) ∧ (∀ ids bk, fz ids bk .pn = .pn) ∧ (∀ ids bk, fz ids bk .inil = .inil) ∧ (∀ ids bk f, fz ids bk (.fn f) = .fn f) := by
  refine ⟨?_, ?_, ?_, ?_, ?_, ?_, ?_, ?_, ?_, ?_, ?_, ?_, ?_, ?_, ?_, ?_, ?_, ?_, ?_, ?_, ?_, ?_, ?_, ?_, ?_, ?_, ?_⟩ <;> intros <;> rfl
end Go.Proofs.YtikmkgoeepgbkaaGreatDoor.Ev
namespace Go.Proofs.YtikmkgoeepgbkaaGreatDoor.Ev
open Go.RowKit
open Go.Proofs.YtikmkgoeepgbkaaGreatDoor.Mem
set_option linter.unusedVariables false

/-- The program, what is asked of worlds, how elements of types are said. -/
structure Cx : Type 1 where
  P : Program
  L : World → Prop
  E : Nat → Option Elp
  cut : List Nat
def vMin (P : Program) (T : Nat) (x y : V) (K : V → Prop) : Prop := match x, y with
  | .n k p, .n k' q => (k = k' ∧ ik P T = some k) ∧ K (.n k (min p q))
  | _, _ => False
section
variable {P : Program} {o : Oper} {a : Act} {w : World} {x y : Operand} {T T' : TypeId}
theorem r_min {k : IntKind} (n m : Int) (hT : P.underlying T = some (.int k)) (ho : o.op = .call { callee := .builtin .min, args := #[x, y], argTypes := #[T, T] }) (hx : a.eval x = .int k n) (hy : a.eval y = .int k m) : (execOp a.eval o).run P w = .ok (.value (.int k (min n m))) w := by
  unfold execOp
  simp only [ho, resolve, invoke, builtin, Sem.run_bind, Sem.run_pure, Result.andThen_ok, List.map_toArray, List.map_cons, List.map_nil, hx, hy]
  generalize a.eval = f at *
  go_simp
  omega
end
theorem min_ok {P : Program} {o : Oper} {w0 : Bs} {S : Nat → Prop} {m : Nat} {G : Gm} {F : Nat → Prop} {σ : St} {a : Act} {W : World} {K : V → Prop} {x y : Operand} {T : Nat} (ho : o.op = .call { callee := .builtin .min, args := #[x, y], argTypes := #[T, T] }) (hR : RelG w0 S m G F σ a W) (h : vMin P T (σ.rd x) (σ.rd y) K) : Yd P σ.al F W G K ((execOp a.eval o).run P W) := by
  have hx := hR.rd x
  have hy := hR.rd y
  generalize σ.rd x = vx at *
  generalize σ.rd y = vy at *
  unfold vMin at h
  split at h
  · obtain ⟨⟨rfl, h1⟩, h⟩ := h
    exact yd_n h (r_min _ _ (ik_some h1) ho hx.n_inv hy.n_inv)
  · exact h.elim
def pk (σ : St) (d : Nat) (k : St → Prop) (v : V) : Prop := k (σ.put d v)
def exOp (C : Cx) (o : Oper) (k : St → Prop) (σ : St) : Prop := match o.op, o.dst with
  | .move x, some d => k (σ.put d (σ.rd x))
  | .assign x, some d => k (σ.put d (σ.rd x))
  | .pick c x y, some d => vPick (σ.rd c) (σ.rd x) (σ.rd y) (pk σ d k)
  | .binOp op T x y _, some d => vBinT C.P T y op (σ.rd x) (σ.rd y) (pk σ d k)
  | .unOp op _ x, some d => vUn op (σ.rd x) (pk σ d k)
  | .convert T T' x, some d => vConv C.P T T' (σ.rd x) (pk σ d k)
  | .extract x i, some d => vExt (σ.rd x) i (pk σ d k)
  | .field T x i, some d => vField C.P T (σ.rd x) i (pk σ d k)
  | .index T x y, some d => vIndex C.P T (σ.rd x) (σ.rd y) (pk σ d k)
  | .slice T x lo hi none, some d => vCut C.P T (σ.rd x) (lo.map σ.rd) (hi.map σ.rd) (pk σ d k)
  | .indexAddr T x y, some d => vIxA C.P T σ.bk (σ.rd x) (σ.rd y) (pk σ d k)
  | .fieldAddr T x i, some d => vFldA C.P T (σ.rd x) i (pk σ d k)
  | .load T x, some d => vLoadG C.P C.L T σ.bk (σ.rd x) (pk σ d k)
  | .build T ps, some d => vBuild C.P T (ps.toList.map fun p => (p.1, σ.rd p.2)) (pk σ d k)
  | .alloc T, some d => xAlloc C.P T d σ k
  | .box T x, some d => xBox T d (σ.rd x) σ k
  | .store T x y, none => xStore C.P T (σ.rd x) (σ.rd y) σ k
  | .makeSlice T x y, some d => xMake C.P C.E T d (σ.rd x) (σ.rd y) σ k
  | .buildSlice T n ps, some d => ps.toList.map (·.1) = List.range n ∧ (xLit C.P C.E T d n (ps.toList.map fun p => σ.rd p.2) σ k ∨ xLitR C.P C.E T d n (ps.toList.map fun p => σ.rd p.2) σ k)
  | .call ⟨.value (.func f), xs, _⟩, some d => xCall C.P C.L f d (xs.toList.map σ.rd) σ k
  | .call ⟨.builtin .len, ⟨[x]⟩, ⟨[T]⟩⟩, some d => vLen C.P T (σ.rd x) (pk σ d k)
  | .call ⟨.builtin .append, ⟨[x, y]⟩, ⟨[T, T']⟩⟩, some d => vSrcG C.P T T' σ.bk (σ.rd x) (σ.rd y) (appK C.P C.E T d (σ.rd x) σ k)
  | .typeAssert x _ T ok, some d => vAst C.P T ok (σ.rd x) (pk σ d k)
  | .makeInterface T x, some d => vMkI C.P T (σ.rd x) (pk σ d k)
  | .nilCheck x, some d => vNil (σ.rd x) (pk σ d k)
  | _, _ => False
/-- By a guard. -/
def gsp (v : V) (g : Nat) (w : Bool) (A B : St → Prop) (σ : St) : Prop := match v with
  | .b x => (x = w → A (σ.put g (.b w))) ∧ (x = !w → B (σ.put g (.b (!w))))
  | _ => False
def skO (o : Oper) (k : St → Prop) (σ : St) : Prop := k (σ.putO o.dst .j)
def gspX (v : V) (g : Nat) (w : Bool) (A B : St → Prop) (σ : St) : Prop := match v with
  | .tp [] => B σ
  | v => gsp v g w A B σ
def skX (o : Oper) (k : St → Prop) (σ : St) : Prop := k (σ.putO o.dst (.tp []))
def exG (C : Cx) (ops : List Oper) (o : Oper) (k : St → Prop) (σ : St) : Prop := match o.guard with
  | none => exOp C o k σ
  | some (j, w) => match (ops[j]?).bind (·.dst) with
    | some g => gspX (σ.sl g) g w (exOp C o k) (skX o k) σ
    | none => False
def wpR (C : Cx) (ops : List Oper) : List Oper → (St → Prop) → St → Prop
  | [], Q, σ => Q σ
  | o :: l, Q, σ => exG C ops o (wpR C ops l Q) σ

section
variable {C : Cx} {o : Oper} {w0 : Bs} {S : Nat → Prop} {m : Nat} {G : Gm} {F : Nat → Prop} {σ : St} {a : Act} {W W' : World} {k : St → Prop}
theorem exOp_ok (hR : RelG w0 S m G F σ a W) (hm : ∀ d, o.dst = some d → d < m) (hL : C.L W) (h : exOp C o k σ) : Eff C.P w0 S m o k a W := by
  unfold exOp at h
  split at h
  all_goals first
    | exact h.elim
    | (rename_i e1 e2; exact eff_yd hR e2 (hm _ e2) (move_ok (.inl e1) hR h))
    | (rename_i e1 e2; exact eff_yd hR e2 (hm _ e2) (move_ok (.inr e1) hR h))
    | (rename_i e1 e2; exact eff_yd hR e2 (hm _ e2) (pick_ok e1 hR h))
    | (rename_i e1 e2; exact eff_yd hR e2 (hm _ e2) (binT_ok e1 hR h))
    | (rename_i e1 e2; exact eff_yd hR e2 (hm _ e2) (un_ok e1 hR h))
    | (rename_i e1 e2; exact eff_yd hR e2 (hm _ e2) (conv_ok e1 hR h))
    | (rename_i e1 e2; exact eff_yd hR e2 (hm _ e2) (ext_ok e1 hR h))
    | (rename_i e1 e2; exact eff_yd hR e2 (hm _ e2) (field_ok e1 hR h))
    | (rename_i e1 e2; exact eff_yd hR e2 (hm _ e2) (index_ok e1 hR h))
    | (rename_i e1 e2; exact eff_yd hR e2 (hm _ e2) (cut_ok e1 hR h))
    | (rename_i e1 e2; exact eff_yd hR e2 (hm _ e2) (ixa_ok e1 hR h))
    | (rename_i e1 e2; exact eff_yd hR e2 (hm _ e2) (flda_ok e1 hR h))
    | (rename_i e1 e2; exact eff_yd hR e2 (hm _ e2) (loadG_ok e1 hR hL h))
    | (rename_i e1 e2; exact eff_yd hR e2 (hm _ e2) (build_ok e1 hR h))
    | (rename_i e1 e2; exact alloc_ok e1 e2 (hm _ e2) hR h)
    | (rename_i e1 e2; exact box_ok e1 e2 (hm _ e2) hR h)
    | (rename_i e1 e2; exact store_ok e1 e2 hR h)
    | (rename_i e1 e2; exact make_ok e1 e2 (hm _ e2) hR h)
    | (rename_i e1 e2; exact h.2.elim (fun h2 => lit_ok e1 h.1 e2 (hm _ e2) hR h2) (fun h2 => litR_ok e1 h.1 e2 (hm _ e2) hR h2))
    | (rename_i e1 e2; exact call_ok e1 e2 (hm _ e2) hR hL h)
    | (rename_i e1 e2; exact eff_yd hR e2 (hm _ e2) (len_ok (t := 0) e1 hR h))
    | (rename_i e1 e2; exact eff_yd hR e2 (hm _ e2) (ast_ok e1 hR h))
    | (rename_i e1 e2; exact eff_yd hR e2 (hm _ e2) (mki_ok e1 hR h))
    | (rename_i e1 e2; exact eff_yd hR e2 (hm _ e2) (nil_ok e1 hR h))
    | (rename_i e1 e2; exact appendG_ok e1 e2 (hm _ e2) hR h)
/-- A literal in the place of a slot's value. -/
theorem RelG.lit (hR : RelG w0 S m G F σ a W) {g : Nat} {x : Bool} (hg : σ.sl g = .b x) : σ.put g (.b x) = σ := by
  cases σ with
  | mk sl bk al =>
    simp only [St.put]
    congr 1
    funext t
    split
    · rename_i e; rw [e]; exact hg.symm
    · rfl
theorem yielded_b {ops : Array Oper} (hR : RelG w0 S m G F σ a W) {j g : Nat} {x : Bool} (hj : (ops.toList[j]?).bind (·.dst) = some g) (hg : σ.sl g = .b x) : yielded ops a.tmps j = some x := by
  have h1 := hR.slot g
  rw [hg] at h1
  have h1 := h1.b_inv
  unfold yielded
  rw [Array.getElem?_toList] at hj
  rw [hj, Option.bind_some]
  rw [Array.getD_eq_getD_getElem?] at h1
  cases e : a.tmps[g]? with
  | none => rw [e] at h1; cases h1
  | some v => rw [e] at h1; simp only [Option.getD_some] at h1; rw [h1]
theorem RelG.putU (h : RelG w0 S m G F σ a W) (d : Option Nat) (hd : ∀ t, d = some t → t < m) : RelG w0 S m G F (σ.putO d (.tp [])) (a.put d undef) W := by
  cases d with
  | none => exact h
  | some d => exact h.put (show Rep F W G (.tp []) (.tuple #[]) from .tp _ _ _ rfl fun q y v e => by simp at e) (fun i hi => by simp [men, menL] at hi) d (hd d rfl)
theorem yielded_u {ops : Array Oper} (hR : RelG w0 S m G F σ a W) {j g : Nat} (hj : (ops.toList[j]?).bind (·.dst) = some g) (hg : σ.sl g = .tp []) : yielded ops a.tmps j = none := by
  have h1 := hR.slot g
  rw [hg] at h1
  unfold yielded
  rw [Array.getElem?_toList] at hj
  rw [hj, Option.bind_some]
  rw [Array.getD_eq_getD_getElem?] at h1
  cases e : a.tmps[g]? with
  | none => rfl
  | some v =>
    rw [e] at h1
    simp only [Option.getD_some] at h1
    cases h1
    rfl
theorem exG_ok {ops : Array Oper} {K : Act → World → Prop} {Q : Exit → Act → World → Prop} (hR : RelG w0 S m G F σ a W) (hm : ∀ d, o.dst = some d → d < m) (hL : C.L W) (h : exG C ops.toList o k σ) (hK : ∀ σ' a' W', k σ' → Rel w0 S m σ' a' W' → K a' W') :
    if Region.wanted o (yielded ops a.tmps) then o.wp C.P a W K Q ∨ (o.asks C.P a W ∧ LetsOut Q) else K (a.put o.dst undef) W := by
  unfold exG at h
  split at h
  · rename_i e
    rw [if_pos (by simp [Region.wanted, e])]
    exact .inl (exOp_ok hR hm hL h K Q hK)
  · rename_i j w e
    split at h
    · rename_i g hj
      unfold gspX at h
      split at h
      · rename_i hg
        have hy := yielded_u hR hj hg
        rw [if_neg (by simp [Region.wanted, e, hy])]
        exact hK _ _ _ h ⟨G, F, hR.putU o.dst hm⟩
      · unfold gsp at h
        split at h
        · rename_i x hg
          have hy := yielded_b hR hj hg
          by_cases hx : x = w
          · subst hx
            have h1 := h.1 rfl
            rw [hR.lit hg] at h1
            rw [if_pos (by simp [Region.wanted, e, hy])]
            exact .inl (exOp_ok hR hm hL h1 K Q hK)
          · have hx' : x = !w := by cases x <;> cases w <;> simp_all
            have h1 := h.2 hx'
            rw [← hx', hR.lit hg] at h1
            rw [if_neg (by simp [Region.wanted, e, hy, hx])]
            exact hK _ _ _ h1 ⟨G, F, hR.putU o.dst hm⟩
        · exact h.elim
    · exact h.elim
/-- What is asked of worlds goes on to hold. -/
def Stab (L : World → Prop) : Prop := ∀ w W : World, L w → Below w.heap.size w W → L W
theorem wpR_ok {ops : Array Oper} {Q : Exit → Act → World → Prop} (hS : Stab C.L) (hL : C.L w0.t) : ∀ (l : List Oper) (σ : St) (a : Act) (W : World), (∀ o ∈ l, ∀ d, o.dst = some d → d < m) → Rel w0 S m σ a W → wpR C ops.toList l k σ →
    (∀ σ' a' W', k σ' → Rel w0 S m σ' a' W' → Q .normal a' W') → wpList C.P ops Q l a W
  | [], σ, a, W, _, hR, h, hK => hK _ _ _ h hR
  | o :: l, σ, a, W, hm, ⟨G, F, hR⟩, h, hK => by
    unfold wpList
    exact exG_ok hR (hm o (by simp)) (hS _ _ hL hR.below.top) h fun σ' a' W' hk hR' => wpR_ok hS hL l σ' a' W' (fun o ho => hm o (by simp [ho])) hR' hk hK
end

end Go.Proofs.YtikmkgoeepgbkaaGreatDoor.Ev
namespace Go.Proofs.YtikmkgoeepgbkaaGreatDoor.Ev
open Go.RowKit
open Go.Proofs.YtikmkgoeepgbkaaGreatDoor.Mem
set_option linter.unusedVariables false
set_option linter.unusedSimpArgs false

inductive Upd : Type 1
  | put (v : V)
  | nw (v : V) (s : Option Nat) (b : Bk)
  | setB (i : Nat) (b : Bk)
def Upd.app (d : Option Nat) (σ : St) : Upd → St
  | .put v => σ.putO d v
  | .nw v s b => match d with
    | some d => σ.nw d v s b
    | none => σ
  | .setB i b => σ.setB i b
def uStore (P : Program) (T : Nat) (p x : V) (bk : Nat → Option Bk) (K : Upd → Prop) : Prop := match p with
  | .p i off => match bk i with
    | some (.cells T1 l) => (sz P T = some (cs x).length ∧ off + (cs x).length ≤ l.length ∧ (cs x).all oneV = true) ∧ K (.setB i (.cells T1 (putV l off x)))
    | _ => False
  | .pe q s i off => match bk q with
    | some (.row T1 z α d l e c) => (sz P T = some (cs x).length ∧ s = z ∧ i < l.length ∧ off + (cs x).length ≤ z ∧ okE z e c (whV z off (e (l.getD i d)) x)) ∧ K (.setB q (.row T1 z α d (l.set i (c (whV z off (e (l.getD i d)) x))) e c))
    | _ => False
  | _ => False
def uMake (P : Program) (E : Nat → Option Elp) (T d : Nat) (n n' : V) (al : Bool) (K : Upd → Prop) : Prop := match n, n' with
  | .n _ p, .n _ q => ∃ t h b, (sle P T = some t ∧ E t = some h ∧ bys P t = some b ∧ zc P t = some (cs (h.e h.d)) ∧ sz P t = some h.z) ∧ okE h.z h.e h.c (h.e h.d) ∧ ((p = q ∨ p = 0) ∧ 0 ≤ q ∧ (b : Int) * q ≤ 281474976710656 ∧ q ≤ 9223372036854775807 ∧ 0 < h.z) ∧ al = false ∧
      K (.nw (.ow d p.toNat) none (.row t h.z h.α h.d (List.replicate p.toNat h.d) h.e h.c))
  | _, _ => False
def uLit (P : Program) (E : Nat → Option Elp) (T d n : Nat) (l : List V) (al : Bool) (K : Upd → Prop) : Prop :=
  ∃ t h zl, (sle P T = some t ∧ E t = some h ∧ sz P t = some h.z ∧ zc P t = some zl ∧ zl.length = h.z) ∧ (n = l.length ∧ n * h.z ≤ 16777216 ∧ 0 < h.z) ∧ (∀ v ∈ l, okE h.z h.e h.c v) ∧ al = false ∧
    K (.nw (.ow d n) none (.row t h.z h.α h.d (l.map h.c) h.e h.c))
def uLitR (P : Program) (E : Nat → Option Elp) (T n : Nat) (l : List V) (al : Bool) (K : Upd → Prop) : Prop :=
  ∃ t h zl, (sle P T = some t ∧ E t = some h ∧ sz P t = some h.z ∧ zc P t = some zl ∧ zl.length = h.z) ∧ (n = l.length ∧ n * h.z ≤ 16777216 ∧ 0 < h.z) ∧ (∀ v ∈ l, okE h.z h.e h.c v) ∧ al = false ∧
    K (.put (.sl h.z h.α h.d (l.map h.c) h.e))
def uApp (P : Program) (E : Nat → Option Elp) (T d : Nat) (s : V) (bk : Nat → Option Bk) (al : Bool) (K : Upd → Prop) (z2 : Nat) (α2 : Type) (l2 : List α2) (e2 : α2 → V) : Prop := match s with
  | .ow i n => match bk i with
    | some (.row t z α d0 l e c) => (∃ b zl, sle P T = some t ∧ sz P t = some z ∧ bys P t = some b ∧ zc P t = some zl ∧ zl.length = z ∧ b ≤ 4096 ∧ (l.length + l2.length) * b ≤ 180000000000000) ∧ (z2 = z ∧ 0 < z ∧ n = l.length ∧ l.length + l2.length ≤ 9223372036854775807) ∧
        (∀ v ∈ l2, okE z e c (e2 v)) ∧ al = false ∧ K (.nw (.ow d (l.length + l2.length)) (some i) (.row t z α d0 (l ++ l2.map fun v => c (e2 v)) e c))
    | _ => False
  | .nl => ∃ t h b zl, (sle P T = some t ∧ E t = some h ∧ sz P t = some h.z ∧ bys P t = some b ∧ zc P t = some zl ∧ zl.length = h.z ∧ b ≤ 4096 ∧ l2.length * b ≤ 180000000000000) ∧ (z2 = h.z ∧ 0 < h.z ∧ l2.length ≤ 9223372036854775807) ∧
        (∀ v ∈ l2, okE h.z h.e h.c (e2 v)) ∧ al = false ∧ K (.nw (.ow d l2.length) none (.row t h.z h.α h.d (l2.map fun v => h.c (e2 v)) h.e h.c))
  | _ => False
/-- What an operation changes. -/
def exI (C : Cx) (o : Oper) (σ : St) (K : Upd → Prop) : Prop := match o.op, o.dst with
  | .move x, some _ => K (.put (σ.rd x))
  | .assign x, some _ => K (.put (σ.rd x))
  | .pick c x y, some _ => vPick (σ.rd c) (σ.rd x) (σ.rd y) fun v => K (.put v)
  | .binOp op T x y _, some _ => vBinT C.P T y op (σ.rd x) (σ.rd y) fun v => K (.put v)
  | .unOp op _ x, some _ => vUn op (σ.rd x) fun v => K (.put v)
  | .convert T T' x, some _ => vConv C.P T T' (σ.rd x) fun v => K (.put v)
  | .extract x i, some _ => vExt (σ.rd x) i fun v => K (.put v)
  | .field T x i, some _ => vField C.P T (σ.rd x) i fun v => K (.put v)
  | .index T x y, some _ => vIndex C.P T (σ.rd x) (σ.rd y) fun v => K (.put v)
  | .slice T x lo hi none, some _ => vCut C.P T (σ.rd x) (lo.map σ.rd) (hi.map σ.rd) fun v => K (.put v)
  | .indexAddr T x y, some _ => vIxA C.P T σ.bk (σ.rd x) (σ.rd y) fun v => K (.put v)
  | .fieldAddr T x i, some _ => vFldA C.P T (σ.rd x) i fun v => K (.put v)
  | .load T x, some _ => vLoadG C.P C.L T σ.bk (σ.rd x) fun v => K (.put v)
  | .build T ps, some _ => vBuild C.P T (ps.toList.map fun p => (p.1, σ.rd p.2)) fun v => K (.put v)
  | .alloc T, some d => ∃ l, zc C.P T = some l ∧ σ.al d = false ∧ K (.nw (.p d 0) none (.cells T l))
  | .box T x, some d => (σ.rd x ≠ .j ∧ σ.al d = false) ∧ K (.nw (.p d 0) none (.cells T (cs (σ.rd x))))
  | .store T x y, none => uStore C.P T (σ.rd x) (σ.rd y) σ.bk K
  | .makeSlice T x y, some d => uMake C.P C.E T d (σ.rd x) (σ.rd y) (σ.al d) K
  | .buildSlice T n ps, some d => ps.toList.map (·.1) = List.range n ∧ (uLit C.P C.E T d n (ps.toList.map fun p => σ.rd p.2) (σ.al d) K ∨ uLitR C.P C.E T n (ps.toList.map fun p => σ.rd p.2) (σ.al d) K)
  | .call ⟨.builtin .append, ⟨[x, y]⟩, ⟨[T, T']⟩⟩, some d => vSrcG C.P T T' σ.bk (σ.rd x) (σ.rd y) (uApp C.P C.E T d (σ.rd x) σ.bk (σ.al d) K)
  | .call ⟨.value (.func f), xs, _⟩, some _ => ∃ bs r, ((∀ i, menL (xs.toList.map σ.rd) i = false) ∧ leL (xs.toList.map σ.rd) bs ∨ flat r = true ∧ leL (vwL σ.bk (xs.toList.map σ.rd)) bs) ∧ Spec C.P C.L f bs r ∧ K (.put r)
  | .call ⟨.builtin .len, ⟨[x]⟩, ⟨[T]⟩⟩, some _ => vLen C.P T (σ.rd x) fun v => K (.put v)
  | .typeAssert x _ T ok, some _ => vAst C.P T ok (σ.rd x) fun v => K (.put v)
  | .makeInterface T x, some _ => vMkI C.P T (σ.rd x) fun v => K (.put v)
  | .nilCheck x, some _ => vNil (σ.rd x) fun v => K (.put v)
  | _, _ => False
theorem vBin_ex {op : BinOp} {x y : V} {K : V → Prop} : vBin op x y K ↔ ∃ v, vBin op x y (fun u => u = v) ∧ K v := by
  unfold vBin
  split <;> simp only [and_assoc, exists_and_left, exists_eq_left', false_and, exists_false]
theorem vUn_ex {op : UnOp} {x : V} {K : V → Prop} : vUn op x K ↔ ∃ v, vUn op x (fun u => u = v) ∧ K v := by
  unfold vUn
  split <;> simp only [and_assoc, exists_and_left, exists_eq_left', false_and, exists_false]
theorem vPick_ex {c x y : V} {K : V → Prop} : vPick c x y K ↔ ∃ v, vPick c x y (fun u => u = v) ∧ K v := by
  unfold vPick
  split <;> simp only [and_assoc, exists_and_left, exists_eq_left', false_and, exists_false]
theorem vConv_ex {P : Program} {T T' : Nat} {x : V} {K : V → Prop} : vConv P T T' x K ↔ ∃ v, vConv P T T' x (fun u => u = v) ∧ K v := by
  unfold vConv
  split
  · refine ⟨fun h => ?_, fun h => ?_⟩
    · rcases h with ⟨k, h1, h2, h3⟩ | ⟨h1, h3⟩
      · exact ⟨_, .inl ⟨k, h1, h2, rfl⟩, h3⟩
      · exact ⟨_, .inr ⟨h1, rfl⟩, h3⟩
    · rcases h with ⟨v, ⟨k, h1, h2, e⟩ | ⟨h1, e⟩, h3⟩
      · exact .inl ⟨k, h1, h2, e ▸ h3⟩
      · exact .inr ⟨h1, e ▸ h3⟩
  · simp only [and_assoc, exists_and_left, exists_eq_left', false_and, exists_false]
  · exact ⟨fun ⟨c, t, h1, h2⟩ => ⟨_, ⟨c, t, h1, rfl⟩, h2⟩, fun ⟨v, ⟨c, t, h1, e⟩, h2⟩ => ⟨c, t, h1, e ▸ h2⟩⟩
  · simp only [and_assoc, exists_and_left, exists_eq_left', false_and, exists_false]
  · simp only [and_assoc, exists_and_left, exists_eq_left', false_and, exists_false]
theorem vExt_ex {x : V} {i : Nat} {K : V → Prop} : vExt x i K ↔ ∃ v, vExt x i (fun u => u = v) ∧ K v := by
  unfold vExt
  split <;> simp only [and_assoc, exists_and_left, exists_eq_left', false_and, exists_false]
theorem vField_ex {P : Program} {T : Nat} {x : V} {i : Nat} {K : V → Prop} : vField P T x i K ↔ ∃ v, vField P T x i (fun u => u = v) ∧ K v := by
  unfold vField
  split
  · exact ⟨fun ⟨a, b, c, h1, h2, h3⟩ => ⟨_, ⟨a, b, c, h1, h2, rfl⟩, h3⟩, fun ⟨v, ⟨a, b, c, h1, h2, e⟩, h3⟩ => ⟨a, b, c, h1, h2, e ▸ h3⟩⟩
  · simp only [and_assoc, exists_and_left, exists_eq_left', false_and, exists_false]
theorem vIndex_ex {P : Program} {T : Nat} {x i : V} {K : V → Prop} : vIndex P T x i K ↔ ∃ v, vIndex P T x i (fun u => u = v) ∧ K v := by
  unfold vIndex
  split <;> simp only [and_assoc, exists_and_left, exists_eq_left', false_and, exists_false]
theorem vLen_ex {P : Program} {T : Nat} {x : V} {K : V → Prop} : vLen P T x K ↔ ∃ v, vLen P T x (fun u => u = v) ∧ K v := by
  unfold vLen
  split <;> simp only [and_assoc, exists_and_left, exists_eq_left', false_and, exists_false]
theorem vCut_ex {P : Program} {T : Nat} {x : V} {lo hi : Option V} {K : V → Prop} : vCut P T x lo hi K ↔ ∃ v, vCut P T x lo hi (fun u => u = v) ∧ K v := by
  unfold vCut
  split <;> simp only [and_assoc, exists_and_left, exists_eq_left', false_and, exists_false]
theorem vIxA_ex {P : Program} {T : Nat} {bk : Nat → Option Bk} {x i : V} {K : V → Prop} : vIxA P T bk x i K ↔ ∃ v, vIxA P T bk x i (fun u => u = v) ∧ K v := by
  unfold vIxA
  split
  · simp only [and_assoc, exists_and_left, exists_eq_left', false_and, exists_false]
  · split <;> simp only [and_assoc, exists_and_left, exists_eq_left', false_and, exists_false]
  · exact ⟨fun ⟨a, b, c, h1, h2, h3⟩ => ⟨_, ⟨a, b, c, h1, h2, rfl⟩, h3⟩, fun ⟨v, ⟨a, b, c, h1, h2, e⟩, h3⟩ => ⟨a, b, c, h1, h2, e ▸ h3⟩⟩
  · exact ⟨fun ⟨a, b, c, h1, h2, h3⟩ => ⟨_, ⟨a, b, c, h1, h2, rfl⟩, h3⟩, fun ⟨v, ⟨a, b, c, h1, h2, e⟩, h3⟩ => ⟨a, b, c, h1, h2, e ▸ h3⟩⟩
  · simp only [and_assoc, exists_and_left, exists_eq_left', false_and, exists_false]
theorem vAst_ex {P : Program} {T : Nat} {ok : Bool} {x : V} {K : V → Prop} : vAst P T ok x K ↔ ∃ v, vAst P T ok x (fun u => u = v) ∧ K v := by
  unfold vAst
  split
  · rename_i t v
    by_cases e : t = T
    · exact ⟨fun ⟨h1, h2, _⟩ => ⟨_, ⟨h1, fun _ => rfl, fun h => absurd e h⟩, h2 e⟩, fun ⟨w, ⟨h1, h2, h3⟩, h4⟩ => ⟨h1, fun _ => by rw [h2 e]; exact h4, fun h => absurd e h⟩⟩
    · exact ⟨fun ⟨h1, _, h2⟩ => ⟨_, ⟨h1, fun h => absurd h e, fun h => ⟨(h2 h).1, rfl⟩⟩, (h2 e).2⟩, fun ⟨w, ⟨h1, h2, h3⟩, h4⟩ => ⟨h1, fun h => absurd h e, fun h => ⟨(h3 h).1, by rw [(h3 h).2]; exact h4⟩⟩⟩
  · simp only [and_assoc, exists_and_left, exists_eq_left']
  · simp only [false_and, exists_false]
theorem vNil_ex {x : V} {K : V → Prop} : vNil x K ↔ ∃ v, vNil x (fun u => u = v) ∧ K v := by
  unfold vNil
  split <;> simp
theorem vMkI_ex {P : Program} {T : Nat} {x : V} {K : V → Prop} : vMkI P T x K ↔ ∃ v, vMkI P T x (fun u => u = v) ∧ K v := by
  unfold vMkI
  simp only [and_assoc, exists_and_left, exists_eq_left']
theorem vFldA_ex {P : Program} {T : Nat} {x : V} {i : Nat} {K : V → Prop} : vFldA P T x i K ↔ ∃ v, vFldA P T x i (fun u => u = v) ∧ K v := by
  unfold vFldA
  split
  · exact ⟨fun ⟨a, b, c, h1, h3⟩ => ⟨_, ⟨a, b, c, h1, rfl⟩, h3⟩, fun ⟨v, ⟨a, b, c, h1, e⟩, h3⟩ => ⟨a, b, c, h1, e ▸ h3⟩⟩
  · exact ⟨fun ⟨a, b, c, h1, h3⟩ => ⟨_, ⟨a, b, c, h1, rfl⟩, h3⟩, fun ⟨v, ⟨a, b, c, h1, e⟩, h3⟩ => ⟨a, b, c, h1, e ▸ h3⟩⟩
  · exact ⟨fun ⟨a, b, c, h1, h2, h4, h3⟩ => ⟨_, ⟨a, b, c, h1, h2, h4, rfl⟩, h3⟩, fun ⟨v, ⟨a, b, c, h1, h2, h4, e⟩, h3⟩ => ⟨a, b, c, h1, h2, h4, e ▸ h3⟩⟩
  · simp only [and_assoc, exists_and_left, exists_eq_left', false_and, exists_false]
theorem vLoad_ex {P : Program} {T : Nat} {bk : Nat → Option Bk} {x : V} {K : V → Prop} : vLoad P T bk x K ↔ ∃ v, vLoad P T bk x (fun u => u = v) ∧ K v := by
  unfold vLoad
  split
  · simp only [and_assoc, exists_and_left, exists_eq_left', false_and, exists_false]
  · split
    · exact ⟨fun ⟨a, h1, h2, h3⟩ => ⟨_, ⟨a, h1, h2, rfl⟩, h3⟩, fun ⟨v, ⟨a, h1, h2, e⟩, h3⟩ => ⟨a, h1, h2, e ▸ h3⟩⟩
    · simp only [and_assoc, exists_and_left, exists_eq_left', false_and, exists_false]
  · split
    · exact ⟨fun ⟨a, h1, h2, h3⟩ => ⟨_, ⟨a, h1, h2, rfl⟩, h3⟩, fun ⟨v, ⟨a, h1, h2, e⟩, h3⟩ => ⟨a, h1, h2, e ▸ h3⟩⟩
    · simp only [and_assoc, exists_and_left, exists_eq_left', false_and, exists_false]
  · simp only [and_assoc, exists_and_left, exists_eq_left', false_and, exists_false]
theorem vLoadG_ex {P : Program} {L : World → Prop} {T : Nat} {bk : Nat → Option Bk} {x : V} {K : V → Prop} : vLoadG P L T bk x K ↔ ∃ v, vLoadG P L T bk x (fun u => u = v) ∧ K v := by
  unfold vLoadG
  split
  · exact ⟨fun ⟨l, z, h1, h2, h3, h4⟩ => ⟨_, ⟨l, z, h1, h2, h3, rfl⟩, h4⟩, fun ⟨v, ⟨l, z, h1, h2, h3, e⟩, h4⟩ => ⟨l, z, h1, h2, h3, e ▸ h4⟩⟩
  · exact vLoad_ex
theorem vFill_ex {pl : List (Nat × Nat)} {K : V → Prop} : ∀ {ps : List (Nat × V)} {l : List V}, vFill pl ps l K ↔ ∃ v, vFill pl ps l (fun u => u = v) ∧ K v
  | [], l => by simp only [vFill, exists_eq_left']
  | (i, v) :: ps, l => by
    simp only [vFill]
    rw [vFill_ex (ps := ps)]
    simp only [and_assoc, exists_and_left]
theorem vBuild_ex {P : Program} {T : Nat} {ps : List (Nat × V)} {K : V → Prop} : vBuild P T ps K ↔ ∃ v, vBuild P T ps (fun u => u = v) ∧ K v := by
  unfold vBuild
  exact ⟨fun ⟨a, b, h1, h2, h3⟩ => by obtain ⟨v, h4, h5⟩ := vFill_ex.1 h3; exact ⟨v, ⟨a, b, h1, h2, h4⟩, h5⟩, fun ⟨v, ⟨a, b, h1, h2, h4⟩, h5⟩ => ⟨a, b, h1, h2, vFill_ex.2 ⟨v, h4, h5⟩⟩⟩
theorem uStore_ex {P : Program} {T : Nat} {p x : V} {bk : Nat → Option Bk} {K : Upd → Prop} : uStore P T p x bk K ↔ ∃ u, uStore P T p x bk (fun v => v = u) ∧ K u := by
  unfold uStore
  split
  · split <;> simp only [and_assoc, exists_and_left, exists_eq_left', false_and, exists_false]
  · split <;> simp only [and_assoc, exists_and_left, exists_eq_left', false_and, exists_false]
  · simp only [and_assoc, exists_and_left, exists_eq_left', false_and, exists_false]
theorem uMake_ex {P : Program} {E : Nat → Option Elp} {T d : Nat} {n n' : V} {al : Bool} {K : Upd → Prop} : uMake P E T d n n' al K ↔ ∃ u, uMake P E T d n n' al (fun v => v = u) ∧ K u := by
  unfold uMake
  split
  · exact ⟨fun ⟨t, h, b, h1, h2, h3, h4, h5⟩ => ⟨_, ⟨t, h, b, h1, h2, h3, h4, rfl⟩, h5⟩, fun ⟨v, ⟨t, h, b, h1, h2, h3, h4, e⟩, h5⟩ => ⟨t, h, b, h1, h2, h3, h4, e ▸ h5⟩⟩
  · simp only [false_and, exists_false]
theorem uLit_ex {P : Program} {E : Nat → Option Elp} {T d n : Nat} {l : List V} {al : Bool} {K : Upd → Prop} : uLit P E T d n l al K ↔ ∃ u, uLit P E T d n l al (fun v => v = u) ∧ K u := by
  unfold uLit
  exact ⟨fun ⟨t, h, b, h1, h2, h3, h4, h5⟩ => ⟨_, ⟨t, h, b, h1, h2, h3, h4, rfl⟩, h5⟩, fun ⟨v, ⟨t, h, b, h1, h2, h3, h4, e⟩, h5⟩ => ⟨t, h, b, h1, h2, h3, h4, e ▸ h5⟩⟩
theorem uLitR_ex {P : Program} {E : Nat → Option Elp} {T n : Nat} {l : List V} {al : Bool} {K : Upd → Prop} : uLitR P E T n l al K ↔ ∃ u, uLitR P E T n l al (fun v => v = u) ∧ K u := by
  unfold uLitR
  exact ⟨fun ⟨t, h, b, h1, h2, h3, h4, h5⟩ => ⟨_, ⟨t, h, b, h1, h2, h3, h4, rfl⟩, h5⟩, fun ⟨v, ⟨t, h, b, h1, h2, h3, h4, e⟩, h5⟩ => ⟨t, h, b, h1, h2, h3, h4, e ▸ h5⟩⟩
theorem uApp_ex {P : Program} {E : Nat → Option Elp} {T d : Nat} {s : V} {bk : Nat → Option Bk} {al : Bool} {K : Upd → Prop} {z2 : Nat} {α2 : Type} {l2 : List α2} {e2 : α2 → V} : uApp P E T d s bk al K z2 α2 l2 e2 ↔ ∃ u, uApp P E T d s bk al (fun v => v = u) z2 α2 l2 e2 ∧ K u := by
  unfold uApp
  split
  · split
    · exact ⟨fun ⟨h1, h2, h3, h4, h5⟩ => ⟨_, ⟨h1, h2, h3, h4, rfl⟩, h5⟩, fun ⟨v, ⟨h1, h2, h3, h4, e⟩, h5⟩ => ⟨h1, h2, h3, h4, e ▸ h5⟩⟩
    · simp only [false_and, exists_false]
  · exact ⟨fun ⟨t, h, b, zl, h1, h2, h3, h4, h5⟩ => ⟨_, ⟨t, h, b, zl, h1, h2, h3, h4, rfl⟩, h5⟩, fun ⟨v, ⟨t, h, b, zl, h1, h2, h3, h4, e⟩, h5⟩ => ⟨t, h, b, zl, h1, h2, h3, h4, e ▸ h5⟩⟩
  · simp only [false_and, exists_false]
theorem vSrc_ex {bk : Nat → Option Bk} {x : V} {K : Nat → (α : Type) → List α → (α → V) → (Upd → Prop) → Prop} (h : ∀ z α l e (J : Upd → Prop), K z α l e J ↔ ∃ u, K z α l e (fun v => v = u) ∧ J u) {J : Upd → Prop} :
    vSrc bk x (fun z α l e => K z α l e J) ↔ ∃ u, vSrc bk x (fun z α l e => K z α l e (fun v => v = u)) ∧ J u := by
  unfold vSrc
  split
  · exact h _ _ _ _ _
  · split
    · dsimp only; rw [h]; simp only [and_assoc, exists_and_left]
    · simp only [false_and, exists_false]
  · simp only [false_and, exists_false]
theorem vSrcG_ex {P : Program} {T T' : Nat} {bk : Nat → Option Bk} {s x : V} {K : Nat → (α : Type) → List α → (α → V) → (Upd → Prop) → Prop} (h : ∀ z α l e (J : Upd → Prop), K z α l e J ↔ ∃ u, K z α l e (fun v => v = u) ∧ J u) {J : Upd → Prop} :
    vSrcG P T T' bk s x (fun z α l e => K z α l e J) ↔ ∃ u, vSrcG P T T' bk s x (fun z α l e => K z α l e (fun v => v = u)) ∧ J u := by
  unfold vSrcG
  split
  · dsimp only; rw [h]; simp only [and_assoc, exists_and_left]
  · rw [vSrc_ex h]; simp only [and_assoc, exists_and_left]
theorem vBinT_ex {P : Program} {T : Nat} {y0 : Operand} {op : BinOp} {x y : V} {K : V → Prop} : vBinT P T y0 op x y K ↔ ∃ v, vBinT P T y0 op x y (fun u => u = v) ∧ K v := by
  unfold vBinT
  split
  · split
    · exact ⟨fun ⟨r, h1, h2⟩ => ⟨_, ⟨r, h1, rfl⟩, h2⟩, fun ⟨v, ⟨r, h1, e⟩, h2⟩ => ⟨r, h1, e ▸ h2⟩⟩
    · exact ⟨fun ⟨r, h1, h2⟩ => ⟨_, ⟨r, h1, rfl⟩, h2⟩, fun ⟨v, ⟨r, h1, e⟩, h2⟩ => ⟨r, h1, e ▸ h2⟩⟩
    · simp only [false_and, exists_false]
  · split
    · exact ⟨fun ⟨h1, h2⟩ => ⟨_, ⟨h1, rfl⟩, h2⟩, fun ⟨v, ⟨h1, e⟩, h2⟩ => ⟨h1, e ▸ h2⟩⟩
    · exact ⟨fun ⟨h1, h2⟩ => ⟨_, ⟨h1, rfl⟩, h2⟩, fun ⟨v, ⟨h1, e⟩, h2⟩ => ⟨h1, e ▸ h2⟩⟩
    · simp only [false_and, exists_false]
  · split
    · exact ⟨fun ⟨h1, h2⟩ => ⟨_, ⟨h1, rfl⟩, h2⟩, fun ⟨v, ⟨h1, e⟩, h2⟩ => ⟨h1, e ▸ h2⟩⟩
    · exact ⟨fun ⟨h1, h2⟩ => ⟨_, ⟨h1, rfl⟩, h2⟩, fun ⟨v, ⟨h1, e⟩, h2⟩ => ⟨h1, e ▸ h2⟩⟩
    · simp only [false_and, exists_false]
  · split
    · exact ⟨fun ⟨h1, h2⟩ => ⟨_, ⟨h1, rfl⟩, h2⟩, fun ⟨v, ⟨h1, e⟩, h2⟩ => ⟨h1, e ▸ h2⟩⟩
    · exact ⟨fun ⟨h1, h2⟩ => ⟨_, ⟨h1, rfl⟩, h2⟩, fun ⟨v, ⟨h1, e⟩, h2⟩ => ⟨h1, e ▸ h2⟩⟩
    · simp only [false_and, exists_false]
  · exact vBin_ex
theorem put_ex {X : (V → Prop) → Prop} (h : ∀ K : V → Prop, X K ↔ ∃ v, X (fun u => u = v) ∧ K v) {J : Upd → Prop} : X (fun v => J (.put v)) ↔ ∃ u, X (fun v => Upd.put v = u) ∧ J u := by
  rw [h]
  refine ⟨fun ⟨v, h1, h2⟩ => ⟨.put v, (h _).2 ⟨v, h1, rfl⟩, h2⟩, fun ⟨u, h1, h2⟩ => ?_⟩
  obtain ⟨v, h3, h4⟩ := (h _).1 h1
  exact ⟨v, h3, by rw [h4]; exact h2⟩
theorem exI_ex {C : Cx} {o : Oper} {σ : St} {K : Upd → Prop} : exI C o σ K ↔ ∃ u, exI C o σ (fun v => v = u) ∧ K u := by
  unfold exI
  split
  · simp only [exists_eq_left']
  · simp only [exists_eq_left']
  · exact put_ex fun _ => vPick_ex
  · exact put_ex fun _ => vBinT_ex
  · exact put_ex fun _ => vUn_ex
  · exact put_ex fun _ => vConv_ex
  · exact put_ex fun _ => vExt_ex
  · exact put_ex fun _ => vField_ex
  · exact put_ex fun _ => vIndex_ex
  · exact put_ex fun _ => vCut_ex
  · exact put_ex fun _ => vIxA_ex
  · exact put_ex fun _ => vFldA_ex
  · exact put_ex fun _ => vLoadG_ex
  · exact put_ex fun _ => vBuild_ex
  · exact ⟨fun ⟨l, h1, h2, h3⟩ => ⟨_, ⟨l, h1, h2, rfl⟩, h3⟩, fun ⟨u, ⟨l, h1, h2, e⟩, h3⟩ => ⟨l, h1, h2, e ▸ h3⟩⟩
  · simp only [and_assoc, exists_and_left, exists_eq_left']
  · exact uStore_ex
  · exact uMake_ex
  · rw [uLit_ex, uLitR_ex]; exact ⟨fun ⟨h0, h⟩ => h.elim (fun ⟨u, h1, h2⟩ => ⟨u, ⟨h0, .inl h1⟩, h2⟩) (fun ⟨u, h1, h2⟩ => ⟨u, ⟨h0, .inr h1⟩, h2⟩), fun ⟨u, ⟨h0, h⟩, h2⟩ => ⟨h0, h.elim (fun h1 => .inl ⟨u, h1, h2⟩) (fun h1 => .inr ⟨u, h1, h2⟩)⟩⟩
  · exact vSrcG_ex (K := fun z α l e J => uApp _ _ _ _ _ _ _ J z α l e) (fun _ _ _ _ _ => uApp_ex)
  · exact ⟨fun ⟨b, r, h1, h2, h3⟩ => ⟨_, ⟨b, r, h1, h2, rfl⟩, h3⟩, fun ⟨u, ⟨b, r, h1, h2, e⟩, h3⟩ => ⟨b, r, h1, h2, e ▸ h3⟩⟩
  · exact put_ex fun _ => vLen_ex
  · exact put_ex fun _ => vAst_ex
  · exact put_ex fun _ => vMkI_ex
  · exact put_ex fun _ => vNil_ex
  · simp only [false_and, exists_false]
theorem exOp_I {C : Cx} {o : Oper} {σ : St} {k : St → Prop} : exOp C o k σ ↔ exI C o σ fun u => k (u.app o.dst σ) := by
  obtain ⟨dst, op, ty, pos, af, g⟩ := o
  constructor
  · intro h
    unfold exOp at h
    dsimp only at h
    split at h <;> first | exact h.elim | exact h
  · intro h
    unfold exI at h
    dsimp only at h
    split at h <;> first | exact h.elim | exact h
/-! ### Which keep apart -/
/-- 0: values alone; 1: memory is read, or new; 2: memory is written. -/
def cls (o : Oper) : Nat := match o.op with
  | .indexAddr _ _ _ | .load _ _ | .alloc _ | .box _ _ | .makeSlice _ _ _ | .buildSlice _ _ _ => 1
  | .call ⟨.builtin .len, _, _⟩ => 0
  | .call ⟨.value _, _, _⟩ => 1
  | .call _ => 2
  | .store _ _ _ => 2
  | _ => 0
theorem rd_congr {σ τ : St} {x : Operand} (h : ∀ t, x = .tmp t → τ.sl t = σ.sl t) : τ.rd x = σ.rd x := by
  cases x with
  | tmp t => exact h t rfl
  | _ => rfl
theorem map_congr_rd {σ τ : St} {l : List Operand} (h : ∀ x ∈ l, τ.rd x = σ.rd x) : l.map τ.rd = l.map σ.rd := List.map_congr_left h
mutual
theorem vw_congr {bk bk' : Nat → Option Bk} : ∀ (v : V), (∀ i, men v i = true → bk' i = bk i) → vw bk' v = vw bk v
  | .ow a n, h => by simp only [vw]; rw [h a (by simp [men])]
  | .ag l, h => by simp only [vw]; rw [vwL_congr l (fun i hi => h i (by simpa [men] using hi))]
  | .tp l, h => by simp only [vw]; rw [vwL_congr l (fun i hi => h i (by simpa [men] using hi))]
  | .it t v, h => by simp only [vw]; rw [vw_congr v (fun i hi => h i (by simpa [men] using hi))]
  | .j, _ => rfl
  | .b _, _ => rfl
  | .n _ _, _ => rfl
  | .s _, _ => rfl
  | .nl, _ => rfl
  | .sl _ _ _ _ _, _ => rfl
  | .px _, _ => rfl
  | .p _ _, _ => rfl
  | .pn, _ => rfl
  | .pe _ _ _ _, _ => rfl
  | .gl _ _, _ => rfl
  | .inil, _ => rfl
  | .fn _, _ => rfl
theorem vwL_congr {bk bk' : Nat → Option Bk} : ∀ (l : List V), (∀ i, menL l i = true → bk' i = bk i) → vwL bk' l = vwL bk l
  | [], _ => rfl
  | v :: l, h => by simp only [vwL]; rw [vw_congr v (fun i hi => h i (by simp [menL, hi])), vwL_congr l (fun i hi => h i (by simp [menL, hi]))]
end
theorem vIxA_congr {P : Program} {T : Nat} {bk bk' : Nat → Option Bk} {x i : V} {K : V → Prop} (h : ∀ k, men x k = true → bk' k = bk k) : vIxA P T bk' x i K = vIxA P T bk x i K := by
  unfold vIxA
  split
  · rfl
  · rw [h _ (by simp [men])]
  · rfl
  · rfl
  · rfl
theorem vLoad_congr {P : Program} {T : Nat} {bk bk' : Nat → Option Bk} {x : V} {K : V → Prop} (h : ∀ k, men x k = true → bk' k = bk k) : vLoad P T bk' x K = vLoad P T bk x K := by
  unfold vLoad
  split
  · rfl
  · rw [h _ (by simp [men])]
  · rw [h _ (by simp [men])]
  · rfl
theorem vLoadG_congr {P : Program} {L : World → Prop} {T : Nat} {bk bk' : Nat → Option Bk} {x : V} {K : V → Prop} (h : ∀ k, men x k = true → bk' k = bk k) : vLoadG P L T bk' x K = vLoadG P L T bk x K := by
  unfold vLoadG
  split
  · rfl
  · exact vLoad_congr h
/-- What an operation changes hangs on its operands, on the blocks that they name, and on whether its name is free. -/
theorem exI_congr {C : Cx} {o : Oper} {σ τ : St} {K : Upd → Prop} (hr : ∀ x ∈ o.op.operands, τ.rd x = σ.rd x) (hb : cls o = 0 ∨ (cls o = 1 ∧ ∀ x ∈ o.op.operands, ∀ i, men (σ.rd x) i = true → τ.bk i = σ.bk i) ∨ τ.bk = σ.bk) (ha : ∀ d, o.dst = some d → τ.al d = σ.al d) (h : exI C o σ K) : exI C o τ K := by
  obtain ⟨dst, op, ty, pos, af, g⟩ := o
  unfold exI at h ⊢
  dsimp only at *
  split at h
  case h_10 =>
    rename_i T x lo hi d
    have h1 : τ.rd x = σ.rd x := hr x (by simp [Op.operands])
    have h2 : lo.map τ.rd = lo.map σ.rd := by
      cases lo with
      | none => rfl
      | some l => exact congrArg some (hr l (by simp [Op.operands]))
    have h3 : hi.map τ.rd = hi.map σ.rd := by
      cases hi with
      | none => rfl
      | some l => exact congrArg some (hr l (by simp [Op.operands]))
    rw [h1, h2, h3]
    exact h
  case h_11 =>
    rename_i T x y d
    rw [hr x (by simp [Op.operands]), hr y (by simp [Op.operands]), vIxA_congr (bk := σ.bk)]
    · exact h
    · rcases hb with hb | ⟨_, hb⟩ | hb
      · cases hb
      · exact hb x (by simp [Op.operands])
      · exact fun k _ => by rw [hb]
  case h_13 =>
    rename_i T x d
    rw [hr x (by simp [Op.operands]), vLoadG_congr (bk := σ.bk)]
    · exact h
    · rcases hb with hb | ⟨_, hb⟩ | hb
      · cases hb
      · exact hb x (by simp [Op.operands])
      · exact fun k _ => by rw [hb]
  case h_14 =>
    rename_i T ps d
    have h1 : ps.toList.map (fun p => (p.1, τ.rd p.2)) = ps.toList.map fun p => (p.1, σ.rd p.2) := List.map_congr_left fun p hp => by
      rw [hr p.2 (by simp only [Op.operands, List.mem_toArray]; exact List.mem_map.2 ⟨p, hp, rfl⟩)]
    rw [h1]
    exact h
  case h_15 =>
    rename_i T d
    obtain ⟨l, h1, h2, h3⟩ := h
    exact ⟨l, h1, by rw [ha _ rfl]; exact h2, h3⟩
  case h_16 =>
    rename_i T x d
    rw [hr x (by simp [Op.operands]), ha _ rfl]
    exact h
  case h_17 =>
    rename_i T x y
    have hbb : τ.bk = σ.bk := by
      rcases hb with hb | ⟨hb, _⟩ | hb
      · cases hb
      · cases hb
      · exact hb
    rw [hr x (by simp [Op.operands]), hr y (by simp [Op.operands]), hbb]
    exact h
  case h_18 =>
    rename_i T x y d
    rw [hr x (by simp [Op.operands]), hr y (by simp [Op.operands]), ha _ rfl]
    exact h
  case h_19 =>
    rename_i T n ps d
    have h1 : ps.toList.map (fun p => τ.rd p.2) = ps.toList.map fun p => σ.rd p.2 := List.map_congr_left fun p hp =>
      hr p.2 (by simp only [Op.operands, List.mem_toArray]; exact List.mem_map.2 ⟨p, hp, rfl⟩)
    rw [h1, ha _ rfl]
    exact h
  case h_20 =>
    rename_i x y T T' d
    have hbb : τ.bk = σ.bk := by
      rcases hb with hb | ⟨hb, _⟩ | hb
      · cases hb
      · cases hb
      · exact hb
    rw [hr x (by simp [Op.operands, Call.operands]), hr y (by simp [Op.operands, Call.operands]), hbb, ha _ rfl]
    exact h
  case h_21 =>
    rename_i f xs ts d
    have hx : ∀ x ∈ xs, x ∈ Op.operands (.call ⟨.value (.func f), xs, ts⟩) := fun x hx => by simp [Op.operands, Call.operands, hx]
    have h1 : xs.toList.map τ.rd = xs.toList.map σ.rd := List.map_congr_left fun x hx' => hr x (hx x (by simpa using hx'))
    have h2 : vwL τ.bk (xs.toList.map σ.rd) = vwL σ.bk (xs.toList.map σ.rd) := vwL_congr _ fun i hi => by
      rcases hb with hb | ⟨_, hb⟩ | hb
      · cases hb
      · have : ∃ x ∈ xs.toList, men (σ.rd x) i = true := by
          generalize xs.toList = l at hi
          induction l with
          | nil => simp [menL] at hi
          | cons a l ih =>
            simp only [List.map_cons, menL, Bool.or_eq_true] at hi
            rcases hi with hi | hi
            · exact ⟨a, by simp, hi⟩
            · obtain ⟨x, h1, h2⟩ := ih hi
              exact ⟨x, by simp [h1], h2⟩
        obtain ⟨x, h3, h4⟩ := this
        exact hb x (hx x (by simpa using h3)) i h4
      · rw [hb]
    rw [h1, h2]
    exact h
  case h_22 =>
    rename_i x T d
    rw [hr x (by simp [Op.operands, Call.operands])]
    exact h
  case h_23 =>
    rename_i x T' T ok d
    rw [hr x (by simp [Op.operands])]
    exact h
  case h_24 =>
    rename_i T x d
    rw [hr x (by simp [Op.operands])]
    exact h
  case h_25 =>
    rename_i x d
    rw [hr x (by simp [Op.operands])]
    exact h
  all_goals try simp only [Op.operands, List.mem_toArray, List.mem_cons, List.not_mem_nil, or_false, forall_eq_or_imp, forall_eq] at hr hb
  all_goals first
    | exact h.elim
    | (rw [hr]; exact h)
    | (rw [hr.1, hr.2]; exact h)
    | (rw [hr.1, hr.2.1, hr.2.2]; exact h)
end Go.Proofs.YtikmkgoeepgbkaaGreatDoor.Ev
namespace Go.Proofs.YtikmkgoeepgbkaaGreatDoor.Ev
open Go.RowKit
open Go.Proofs.YtikmkgoeepgbkaaGreatDoor.Mem
set_option linter.unusedVariables false
set_option linter.unusedSimpArgs false

theorem St.lit {σ : St} {g : Nat} {x : Bool} (hg : σ.sl g = .b x) : σ.put g (.b x) = σ := by
  cases σ with
  | mk sl bk al =>
    simp only [St.put]
    congr 1
    funext t
    split
    · rename_i e; rw [e]; exact hg.symm
    · rfl
def TG (C : Cx) (ops : List Oper) (o : Oper) (σ : St) (u : Upd) : Prop := match o.guard with
  | none => exI C o σ fun v => v = u
  | some (j, w) => ∃ g, (ops[j]?).bind (·.dst) = some g ∧ ((∃ x, σ.sl g = .b x ∧ (x = w → exI C o σ fun v => v = u) ∧ (x = !w → u = .put (.tp []))) ∨ (σ.sl g = .tp [] ∧ u = .put (.tp [])))
section
variable {C : Cx} {ops : List Oper} {o o' : Oper} {σ : St} {k : St → Prop} {u u' : Upd} {w0 : Bs} {S : Nat → Prop} {m : Nat}
theorem exG_T : exG C ops o k σ ↔ ∃ u, TG C ops o σ u ∧ k (u.app o.dst σ) := by
  obtain ⟨dst, op, ty, pos, af, gd⟩ := o
  cases gd with
  | none => exact exOp_I.trans exI_ex
  | some p =>
    obtain ⟨j, w⟩ := p
    unfold exG TG
    dsimp only
    cases hj : (ops[j]?).bind (·.dst) with
    | none => exact ⟨fun h => h.elim, fun ⟨u, ⟨g, h, _⟩, _⟩ => by cases h⟩
    | some g =>
      dsimp only
      constructor
      · intro h
        unfold gspX at h
        split at h
        · rename_i hg
          exact ⟨.put (.tp []), ⟨g, rfl, .inr ⟨hg, rfl⟩⟩, h⟩
        · unfold gsp at h
          split at h
          · rename_i x hg
            by_cases hx : x = w
            · subst hx
              have h1 := h.1 rfl
              rw [St.lit hg, exOp_I, exI_ex] at h1
              obtain ⟨u, h2, h3⟩ := h1
              exact ⟨u, ⟨g, rfl, .inl ⟨x, hg, fun _ => h2, fun e => by cases x <;> cases e⟩⟩, h3⟩
            · have hx' : x = !w := by cases x <;> cases w <;> simp_all
              have h1 := h.2 hx'
              rw [← hx', St.lit hg] at h1
              exact ⟨.put (.tp []), ⟨g, rfl, .inl ⟨x, hg, fun e => absurd e hx, fun _ => rfl⟩⟩, h1⟩
          · exact h.elim
      · rintro ⟨u, ⟨g', h1, ⟨x, hg, h2, h3⟩ | ⟨hg, rfl⟩⟩, h4⟩
        · obtain rfl := Option.some.inj h1
          rw [hg]
          show gsp (.b x) _ _ _ _ _
          unfold gsp
          refine ⟨fun e => ?_, fun e => ?_⟩
          · subst e
            rw [St.lit hg, exOp_I, exI_ex]
            exact ⟨u, h2 rfl, h4⟩
          · rw [← e, St.lit hg]
            rw [h3 e] at h4
            exact h4
        · obtain rfl := Option.some.inj h1
          rw [hg]
          exact h4
/-- What values alone, or what only reads, changes. -/
def Upd.isPut : Upd → Prop
  | .put _ => True
  | _ => False
def Upd.mild : Upd → Prop
  | .put _ => True
  | .nw _ none _ => True
  | _ => False
theorem put_shape {X : (V → Prop) → Prop} (h : ∀ K : V → Prop, X K ↔ ∃ v, X (fun u => u = v) ∧ K v) (hx : X fun v => Upd.put v = u) : u.isPut := by
  obtain ⟨v, _, e⟩ := (h _).1 hx
  rw [← e]
  trivial
theorem mild_of (h : u.isPut) : u.mild := by
  cases u with
  | put v => trivial
  | nw v s b => exact h.elim
  | setB i b => exact h.elim
theorem exI_shape (h : exI C o σ fun v => v = u) : (cls o = 0 → u.isPut) ∧ (cls o = 1 → u.mild) ∧ ∀ v s b, u = .nw v s b → ∃ d, o.dst = some d ∧ σ.al d = false := by
  obtain ⟨dst, op, ty, pos, af, g⟩ := o
  have P : u.isPut → (cls ⟨dst, op, ty, pos, af, g⟩ = 0 → u.isPut) ∧ (cls ⟨dst, op, ty, pos, af, g⟩ = 1 → u.mild) ∧ ∀ v s b, u = .nw v s b → ∃ d, dst = some d ∧ σ.al d = false := fun hp =>
    ⟨fun _ => hp, fun _ => mild_of hp, fun v s b e => by rw [e] at hp; exact hp.elim⟩
  unfold exI at h
  dsimp only at h ⊢
  split at h
  · exact P (by rw [← h]; trivial)
  · exact P (by rw [← h]; trivial)
  · exact P (put_shape (fun _ => vPick_ex) h)
  · exact P (put_shape (fun _ => vBinT_ex) h)
  · exact P (put_shape (fun _ => vUn_ex) h)
  · exact P (put_shape (fun _ => vConv_ex) h)
  · exact P (put_shape (fun _ => vExt_ex) h)
  · exact P (put_shape (fun _ => vField_ex) h)
  · exact P (put_shape (fun _ => vIndex_ex) h)
  · exact P (put_shape (fun _ => vCut_ex) h)
  · exact P (put_shape (fun _ => vIxA_ex) h)
  · exact P (put_shape (fun _ => vFldA_ex) h)
  · exact P (put_shape (fun _ => vLoadG_ex) h)
  · exact P (put_shape (fun _ => vBuild_ex) h)
  · obtain ⟨l, h1, h2, rfl⟩ := h
    exact ⟨fun e => (by cases e), fun _ => trivial, fun _ _ _ _ => ⟨_, rfl, h2⟩⟩
  · obtain ⟨⟨h1, h2⟩, rfl⟩ := h
    exact ⟨fun e => (by cases e), fun _ => trivial, fun _ _ _ _ => ⟨_, rfl, h2⟩⟩
  · refine ⟨fun e => (by cases e), fun e => (by cases e), fun v s b e => ?_⟩
    subst e
    unfold uStore at h
    split at h
    · split at h
      · cases h.2
      · exact h.elim
    · split at h
      · cases h.2
      · exact h.elim
    · exact h.elim
  · unfold uMake at h
    split at h
    · obtain ⟨t, h0, b, h1, h2, h3, h4, rfl⟩ := h
      exact ⟨fun e => (by cases e), fun _ => trivial, fun _ _ _ _ => ⟨_, rfl, h4⟩⟩
    · exact h.elim
  · obtain ⟨_, h⟩ := h
    rcases h with ⟨t, h0, b, h1, h2, h3, h4, rfl⟩ | ⟨t, h0, b, h1, h2, h3, h4, rfl⟩
    · exact ⟨fun e => (by cases e), fun _ => trivial, fun _ _ _ _ => ⟨_, rfl, h4⟩⟩
    · exact P trivial
  · refine ⟨fun e => (by cases e), fun e => (by cases e), fun v s b e => ?_⟩
    rename_i x y T T' d
    have key : ∀ z α (l : List α) e, uApp C.P C.E T d (σ.rd x) σ.bk (σ.al d) (fun v => v = u) z α l e → ∃ d', some d = some d' ∧ σ.al d' = false := fun z α l e h => by
      unfold uApp at h
      split at h
      · split at h
        · exact ⟨_, rfl, h.2.2.2.1⟩
        · exact h.elim
      · obtain ⟨_, _, _, _, _, _, _, h4, _⟩ := h; exact ⟨_, rfl, h4⟩
      · exact h.elim
    unfold vSrcG at h
    split at h
    · exact key _ _ _ _ h.2
    · obtain ⟨_, h⟩ := h
      unfold vSrc at h
      split at h
      · exact key _ _ _ _ h
      · split at h
        · exact key _ _ _ _ h.2
        · exact h.elim
      · exact h.elim
  · obtain ⟨b, r, h1, h2, rfl⟩ := h
    exact P trivial
  · exact P (put_shape (fun _ => vLen_ex) h)
  · exact P (put_shape (fun _ => vAst_ex) h)
  · exact P (put_shape (fun _ => vMkI_ex) h)
  · exact P (put_shape (fun _ => vNil_ex) h)
  · exact h.elim
theorem TG_shape (h : TG C ops o σ u) : (cls o = 0 → u.isPut) ∧ (cls o = 1 → u.mild) ∧ ∀ v s b, u = .nw v s b → ∃ d, o.dst = some d ∧ σ.al d = false := by
  unfold TG at h
  split at h
  · exact exI_shape h
  · obtain ⟨g, h1, ⟨x, h2, h3, h4⟩ | ⟨_, rfl⟩⟩ := h
    · rename_i j w e
      by_cases hx : x = w
      · exact exI_shape (h3 hx)
      · rw [h4 (by cases x <;> cases w <;> simp_all)]
        exact ⟨fun _ => trivial, fun _ => trivial, fun _ _ _ e => by cases e⟩
    · exact ⟨fun _ => trivial, fun _ => trivial, fun _ _ _ e => by cases e⟩
theorem app_sl {d : Option Nat} {t : Nat} (h : d ≠ some t) : (u.app d σ).sl t = σ.sl t := by
  cases u with
  | put v =>
    cases d with
    | none => rfl
    | some d => simp only [Upd.app, St.putO, St.put]; rw [if_neg (fun e => h (by rw [e]))]
  | nw v s b =>
    cases d with
    | none => rfl
    | some d => simp only [Upd.app, St.nw]; rw [if_neg (fun e => h (by rw [e]))]
  | setB i b => rfl
/-- An operation that keeps apart from another one does behind it what it does ahead of it. -/
theorem TG_keep {ar : Array Oper} (har : ops = ar.toList) (hR : ∃ a W, Rel w0 S m σ a W) (h' : TG C ops o' σ u') (hl : ∀ t, o'.dst = some t → t ∉ o.looksAt ar) (hd : ∀ t, o'.dst = some t → o.dst ≠ some t) (hc : cls o = 0 ∨ cls o' = 0 ∨ (cls o = 1 ∧ cls o' = 1)) :
    TG C ops o σ u ↔ TG C ops o (u'.app o'.dst σ) u := by
  obtain ⟨a, W, G, F, hG⟩ := hR
  obtain ⟨s0, s1, s2⟩ := TG_shape h'
  have hr : ∀ x ∈ o.op.operands, (u'.app o'.dst σ).rd x = σ.rd x := fun x hx => rd_congr fun t e => app_sl fun e2 => hl t e2 (by
    unfold Oper.looksAt
    exact List.mem_append_left _ (List.mem_filterMap.2 ⟨x, by simpa using hx, by rw [e]⟩))
  have ha : ∀ d, o.dst = some d → (u'.app o'.dst σ).al d = σ.al d := fun d e => by
    cases u' with
    | put v => cases o'.dst <;> rfl
    | setB i b => rfl
    | nw v s b =>
      cases e2 : o'.dst with
      | none => rfl
      | some d' =>
        have : d ≠ d' := fun e3 => hd d' e2 (by rw [e, e3])
        simp only [Upd.app, St.nw]
        rw [beq_eq_false_iff_ne.2 this]
        rfl
  have hb : cls o = 0 ∨ (cls o = 1 ∧ ∀ x ∈ o.op.operands, ∀ i, men (σ.rd x) i = true → (u'.app o'.dst σ).bk i = σ.bk i) ∨ (u'.app o'.dst σ).bk = σ.bk := by
    have hput : u'.isPut → (u'.app o'.dst σ).bk = σ.bk := fun h => by
      cases u' with
      | put v => cases o'.dst <;> rfl
      | nw v s b => exact h.elim
      | setB i b => exact h.elim
    rcases hc with hc | hc | ⟨hc, hc'⟩
    · exact .inl hc
    · exact .inr (.inr (hput (s0 hc)))
    · refine .inr (.inl ⟨hc, fun x hx i hi => ?_⟩)
      have hm := s1 hc'
      cases u' with
      | put v => rw [hput trivial]
      | setB i b => exact hm.elim
      | nw v s b =>
        cases s with
        | some s => exact hm.elim
        | none =>
          obtain ⟨d, e, hal⟩ := s2 _ _ _ rfl
          rw [e]
          have : i ≠ d := fun e2 => by have := hG.rd_men x i hi; rw [e2, hal] at this; cases this
          simp only [Upd.app, St.nw]
          rw [if_neg this, if_neg (by simp)]
  have hb' : cls o = 0 ∨ (cls o = 1 ∧ ∀ x ∈ o.op.operands, ∀ i, men ((u'.app o'.dst σ).rd x) i = true → σ.bk i = (u'.app o'.dst σ).bk i) ∨ σ.bk = (u'.app o'.dst σ).bk := by
    rcases hb with hb | ⟨hb, h⟩ | hb
    · exact .inl hb
    · exact .inr (.inl ⟨hb, fun x hx i hi => (h x hx i (by rw [← hr x hx]; exact hi)).symm⟩)
    · exact .inr (.inr hb.symm)
  have hE : (exI C o σ fun v => v = u) ↔ exI C o (u'.app o'.dst σ) fun v => v = u :=
    ⟨exI_congr hr hb ha, exI_congr (fun x hx => (hr x hx).symm) hb' fun d e => (ha d e).symm⟩
  unfold TG
  split
  · exact hE
  · rename_i j w e
    have hg : ∀ g, (ops[j]?).bind (·.dst) = some g → (u'.app o'.dst σ).sl g = σ.sl g := fun g hj => app_sl fun e2 => hl g e2 (by
      unfold Oper.looksAt
      rw [e]
      refine List.mem_append_right _ ?_
      rw [har, Array.getElem?_toList] at hj
      simp only [hj]
      simp)
    constructor
    · rintro ⟨g, h1, ⟨x, h2, h3, h4⟩ | ⟨h2, h3⟩⟩
      · exact ⟨g, h1, .inl ⟨x, by rw [hg g h1]; exact h2, fun e => hE.1 (h3 e), h4⟩⟩
      · exact ⟨g, h1, .inr ⟨by rw [hg g h1]; exact h2, h3⟩⟩
    · rintro ⟨g, h1, ⟨x, h2, h3, h4⟩ | ⟨h2, h3⟩⟩
      · exact ⟨g, h1, .inl ⟨x, by rw [← hg g h1]; exact h2, fun e => hE.2 (h3 e), h4⟩⟩
      · exact ⟨g, h1, .inr ⟨by rw [← hg g h1]; exact h2, h3⟩⟩
theorem app_comm {d d' : Option Nat} (hd : ∀ t, d = some t → d' ≠ some t) (h : u.isPut ∨ u'.isPut ∨ (u.mild ∧ u'.mild)) : u'.app d' (u.app d σ) = u.app d (u'.app d' σ) := by
  obtain ⟨sl, bk, al⟩ := σ
  cases d with
  | none =>
    cases d' with
    | none => cases u <;> cases u' <;> first | rfl | (rcases h with h | h | ⟨h, h2⟩ <;> first | exact h.elim | exact h2.elim)
    | some d' => cases u <;> cases u' <;> first | rfl | (rcases h with h | h | ⟨h, h2⟩ <;> first | exact h.elim | exact h2.elim)
  | some d =>
    cases d' with
    | none => cases u <;> cases u' <;> first | rfl | (rcases h with h | h | ⟨h, h2⟩ <;> first | exact h.elim | exact h2.elim)
    | some d' =>
      have hne : d ≠ d' := fun e => hd d rfl (by rw [e])
      have sw : ∀ (f : Nat → V) (v v' : V), (fun t => if t = d' then v' else if t = d then v else f t) = fun t => if t = d then v else if t = d' then v' else f t := fun f v v' => by
        funext t
        by_cases e : t = d
        · subst e; rw [if_neg hne, if_pos rfl, if_pos rfl]
        · rw [if_neg e, if_neg e]
      cases u with
      | put v =>
        cases u' with
        | put v' => simp only [Upd.app, St.putO, St.put, St.mk.injEq, and_true]; exact sw _ _ _
        | nw v' s b => simp only [Upd.app, St.putO, St.put, St.nw, St.mk.injEq, and_true]; exact sw _ _ _
        | setB i b => rfl
      | nw v s b =>
        cases u' with
        | put v' => simp only [Upd.app, St.putO, St.put, St.nw, St.mk.injEq, and_true]; exact sw _ _ _
        | nw v' s' b' =>
          cases s with
          | some s => rcases h with h | h | ⟨h, _⟩ <;> exact h.elim
          | none =>
            cases s' with
            | some s => rcases h with h | h | ⟨_, h⟩ <;> exact h.elim
            | none =>
              simp only [Upd.app, St.nw, St.mk.injEq]
              refine ⟨sw _ _ _, ?_, ?_⟩
              · funext t
                by_cases e : t = d
                · subst e; rw [if_neg hne, if_pos rfl]; simp
                · rw [if_neg e]; simp [e]
              · funext t
                rw [Bool.or_left_comm]
        | setB i b => rcases h with h | h | ⟨_, h⟩ <;> exact h.elim
      | setB i b =>
        cases u' with
        | put v' => rfl
        | nw v' s b => rcases h with h | h | ⟨h, _⟩ <;> exact h.elim
        | setB i b => rcases h with h | h | ⟨h, _⟩ <;> exact h.elim
end
end Go.Proofs.YtikmkgoeepgbkaaGreatDoor.Ev
namespace Go.Proofs.YtikmkgoeepgbkaaGreatDoor.Ev
open Go.RowKit
open Go.Proofs.YtikmkgoeepgbkaaGreatDoor.Mem
set_option linter.unusedVariables false
set_option linter.unusedSimpArgs false

def compat (x y : Oper) : Bool := cls x == 0 || cls y == 0 || (cls x == 1 && cls y == 1)
/-- Is the one done before the other, by edges? -/
def rch (ar : Array Oper) : Nat → Nat → Nat → Bool
  | 0, _, _ => false
  | n + 1, j, i => match ar[i]? with
    | none => false
    | some o => (o.after.any fun e => Region.binds .any e && e.on == j) || o.after.any fun e => Region.binds .any e && rch ar n j e.on
/-- What is reached, as bits. -/
def mskOf (acc : List Nat) : List Edge → Nat → Nat
  | [], m => m
  | e :: l, m => mskOf acc l (bif Region.binds .any e then (m ||| 2 ^ e.on) ||| acc.getD e.on 0 else m)
def msks : List Oper → List Nat → List Nat
  | [], acc => acc
  | o :: l, acc => msks l (acc ++ [mskOf acc o.after.toList 0])
def drawOkM (ar : Array Oper) (M : List Nat) : Bool := ar.toList.zipIdx.all fun p => (p.1.after.all fun e => !Region.binds .any e || decide (e.on < p.2)) &&
  ar.toList.zipIdx.all fun q => decide (p.2 ≤ q.2) || (M.getD p.2 0).testBit q.2 || (q.1.apart ar p.1 && compat q.1 p.1)
def drawOk (ar : Array Oper) : Bool := drawOkM ar (msks ar.toList [])
theorem rch_up {ar : Array Oper} : ∀ (n j i : Nat), rch ar n j i = true → rch ar (n + 1) j i = true
  | 0, _, _, h => by cases h
  | n + 1, j, i, h => by
    unfold rch at h ⊢
    split at h
    · cases h
    · rename_i o ho
      simp only [Bool.or_eq_true, ← Array.any_toList, List.any_eq_true, Bool.and_eq_true] at h ⊢
      rcases h with h | ⟨e, h1, h2, h3⟩
      · exact .inl h
      · exact .inr ⟨e, h1, h2, rch_up n j e.on h3⟩
theorem rch_le {ar : Array Oper} {j i : Nat} : ∀ {n m : Nat}, n ≤ m → rch ar n j i = true → rch ar m j i = true := fun {n m} h hr => by
  obtain ⟨k, rfl⟩ := Nat.exists_eq_add_of_le h
  clear h
  induction k with
  | zero => exact hr
  | succ k ih => exact rch_up _ _ _ ih
theorem mskOf_bit (acc : List Nat) (j : Nat) : ∀ (l : List Edge) (m : Nat), (mskOf acc l m).testBit j = true → m.testBit j = true ∨ ∃ e ∈ l, Region.binds .any e = true ∧ (e.on = j ∨ (acc.getD e.on 0).testBit j = true)
  | [], m, h => .inl h
  | e :: l, m, h => by
    unfold mskOf at h
    rcases mskOf_bit acc j l _ h with h | ⟨e', h1, h2⟩
    · cases hb : Region.binds .any e with
      | false => rw [hb] at h; exact .inl h
      | true =>
        rw [hb] at h
        simp only [cond_true, Nat.testBit_or, Nat.testBit_two_pow, Bool.or_eq_true, decide_eq_true_eq] at h
        rcases h with (h | h) | h
        · exact .inl h
        · exact .inr ⟨e, by simp, hb, .inl h⟩
        · exact .inr ⟨e, by simp, hb, .inr h⟩
    · exact .inr ⟨e', List.mem_cons_of_mem _ h1, h2⟩
theorem msks_spec {ar : Array Oper} : ∀ (l : List Oper) (acc : List Nat), (∀ q o, l[q]? = some o → ar[acc.length + q]? = some o) → (∀ i j, (acc.getD i 0).testBit j = true → rch ar (i + 1) j i = true) →
    ∀ i j, ((msks l acc).getD i 0).testBit j = true → rch ar (i + 1) j i = true
  | [], acc, _, h => h
  | o :: l, acc, hl, h => by
    refine msks_spec l _ (fun q x hq => ?_) (fun i j hb => ?_)
    · rw [List.length_append, List.length_singleton, Nat.add_assoc, Nat.add_comm 1 q]
      exact hl (q + 1) x (by simpa using hq)
    · rcases Nat.lt_trichotomy i acc.length with hi | hi | hi
      · rw [List.getD_eq_getElem?_getD, List.getElem?_append_left hi, ← List.getD_eq_getElem?_getD] at hb
        exact h i j hb
      · subst hi
        rw [List.getD_eq_getElem?_getD, List.getElem?_append_right (Nat.le_refl _), Nat.sub_self] at hb
        have ho := hl 0 o rfl
        rw [Nat.add_zero] at ho
        rcases mskOf_bit acc j _ 0 hb with h0 | ⟨e, h1, h2, h3⟩
        · simp at h0
        · unfold rch
          rw [ho]
          simp only [Bool.or_eq_true, ← Array.any_toList, List.any_eq_true, Bool.and_eq_true, beq_iff_eq]
          rcases h3 with h3 | h3
          · exact .inl ⟨e, by simpa using h1, h2, h3⟩
          · refine .inr ⟨e, by simpa using h1, h2, rch_le ?_ (h e.on j h3)⟩
            rcases Nat.lt_or_ge e.on acc.length with hh | hh
            · exact hh
            · rw [List.getD_eq_getElem?_getD, List.getElem?_eq_none hh] at h3
              simp at h3
      · rw [List.getD_eq_getElem?_getD, List.getElem?_eq_none (by simp; omega)] at hb
        simp at hb
theorem drawOk_spec {ar : Array Oper} (h : drawOk ar = true) {i : Nat} {o : Oper} (hi : ar[i]? = some o) : (∀ e ∈ o.after, Region.binds .any e = true → e.on < i) ∧
    ∀ j y, j < i → ar[j]? = some y → rch ar (i + 1) j i = true ∨ (y.apart ar o = true ∧ compat y o = true) := by
  have mem : ∀ {k : Nat} {x : Oper}, ar[k]? = some x → (x, k) ∈ ar.toList.zipIdx := fun {k x} hk => by
    rw [List.mem_zipIdx_iff_getElem?, Array.getElem?_toList]
    exact hk
  have hM : ∀ i j, ((msks ar.toList []).getD i 0).testBit j = true → rch ar (i + 1) j i = true := msks_spec ar.toList [] (fun q o hq => by rw [List.length_nil, Nat.zero_add, ← Array.getElem?_toList]; exact hq) (fun i j hb => by simp at hb)
  have h1 := List.all_eq_true.1 h _ (mem hi)
  simp only [Bool.and_eq_true] at h1
  refine ⟨fun e he hb => ?_, fun j y hj hy => ?_⟩
  · have := Array.all_eq_true_iff_forall_mem.1 h1.1 e he
    simpa [hb] using this
  · have := List.all_eq_true.1 h1.2 _ (mem hy)
    simp only [Bool.or_eq_true, decide_eq_true_eq, Bool.and_eq_true] at this
    rcases this with (h2 | h2) | h2
    · omega
    · exact .inl (hM _ _ h2)
    · exact .inr h2
def Closed (ar : Array Oper) (listed : Array Bool) : Prop := ∀ i o, ar[i]? = some o → listed.getD i false = true → ∀ e ∈ o.after, Region.binds .any e = true → listed.getD e.on false = true
theorem rch_listed {ar : Array Oper} {listed : Array Bool} (hc : Closed ar listed) : ∀ (n j i : Nat), (∀ o, ar[i]? = some o → ∀ e ∈ o.after, Region.binds .any e = true → listed.getD e.on false = true) → rch ar n j i = true → listed.getD j false = true
  | 0, _, _, _, h => by cases h
  | n + 1, j, i, hp, h => by
    unfold rch at h
    split at h
    · cases h
    · rename_i o ho
      simp only [Bool.or_eq_true] at h
      rcases h with h | h
      · rw [← Array.any_toList] at h
        obtain ⟨e, he, h3⟩ := List.any_eq_true.1 h
        rw [Array.mem_toList_iff] at he
        simp only [Bool.and_eq_true, beq_iff_eq] at h3
        rw [← h3.2]
        exact hp o ho e he h3.1
      · rw [← Array.any_toList] at h
        obtain ⟨e, he, h3⟩ := List.any_eq_true.1 h
        rw [Array.mem_toList_iff] at he
        simp only [Bool.and_eq_true] at h3
        exact rch_listed hc n j e.on (fun o' ho' => hc e.on o' ho' (hp o ho e he h3.1)) h3.2
theorem closed_set {ar : Array Oper} {listed : Array Bool} {i : Nat} (hc : Closed ar listed) (hp : ∀ o, ar[i]? = some o → ∀ e ∈ o.after, Region.binds .any e = true → listed.getD e.on false = true) : Closed ar (listed.setIfInBounds i true) := by
  have mono : ∀ k, listed.getD k false = true → (listed.setIfInBounds i true).getD k false = true := fun k h => by
    rw [Array.getD_eq_getD_getElem?] at h ⊢
    rw [Array.getElem?_setIfInBounds]
    split
    · split
      · rfl
      · rename_i h1 h2; subst h1; rw [Array.getElem?_eq_none (by omega)] at h; cases h
    · exact h
  intro k o ho hk e he hb
  refine mono _ ?_
  by_cases hki : k = i
  · subst hki
    exact hp o ho e he hb
  · refine hc k o ho ?_ e he hb
    rw [Array.getD_eq_getD_getElem?, Array.getElem?_setIfInBounds_ne (Ne.symm hki), ← Array.getD_eq_getD_getElem?] at hk
    exact hk
section
variable {C : Cx} {ops l2 : List Oper} {o y : Oper} {σ : St} {k : St → Prop} {u u' : Upd} {w0 : Bs} {S : Nat → Prop} {m : Nat} {ar : Array Oper}
theorem wp_real {P : Program} {a : Act} {W : World} {K : Act → World → Prop} (h : o.wp P a W K (fun _ _ _ => False)) : ∃ a' W', K a' W' := by
  unfold Oper.wp at h
  generalize (execOp a.eval o).run P W = r at h
  cases r with
  | ok n w' =>
    cases n <;> simp only [Oper.upon] at h <;> first
      | exact ⟨_, _, h⟩
      | exact h.elim
      | (obtain ⟨e, w2, fr, hR, _⟩ := h []
         cases e with
         | returned v => exact ⟨_, _, hR⟩
         | panicked c => exact hR.elim
         | outgrown => obtain ⟨_, _, h⟩ := hR; exact h.elim)
      | (obtain ⟨v, w2, hR, _⟩ := h default []
         exact ⟨_, _, hR⟩)
  | halt x w' => cases x <;> simp only [Oper.upon] at h
theorem real_step (hS : Stab C.L) (hL : C.L w0.t) (har : ops = ar.toList) (hm : ∀ d, o.dst = some d → d < m) (hR : ∃ a W, Rel w0 S m σ a W) (h : TG C ops o σ u) : ∃ a W, Rel w0 S m (u.app o.dst σ) a W := by
  obtain ⟨a, W, G, F, hG⟩ := hR
  subst har
  have := exG_ok (ops := ar) (Q := fun _ _ _ => False) (K := fun a W => Rel w0 S m (u.app o.dst σ) a W) hG hm (hS _ _ hL hG.below.top) (exG_T.2 ⟨u, h, (rfl : u.app o.dst σ = _)⟩) (fun σ' a' W' e hR' => by subst e; exact hR')
  split at this
  · rcases this with h | ⟨_, _, _, h⟩
    · exact wp_real h
    · exact h.elim
  · exact ⟨_, _, this⟩
theorem comm (hS : Stab C.L) (hL : C.L w0.t) (har : ops = ar.toList) (hR : ∃ a W, Rel w0 S m σ a W) (hy : TG C ops y σ u) (ho : TG C ops o (u.app y.dst σ) u') (hap : y.apart ar o = true) (hc : compat y o = true) :
    TG C ops o σ u' ∧ TG C ops y (u'.app o.dst σ) u ∧ u'.app o.dst (u.app y.dst σ) = u.app y.dst (u'.app o.dst σ) := by
  obtain ⟨a1, a2, a3⟩ := Oper.apart_spec hap
  have hc' : cls y = 0 ∨ cls o = 0 ∨ (cls y = 1 ∧ cls o = 1) := by
    unfold compat at hc
    simp only [Bool.or_eq_true, beq_iff_eq, Bool.and_eq_true] at hc
    rcases hc with (h | h) | h
    · exact .inl h
    · exact .inr (.inl h)
    · exact .inr (.inr h)
  have h1 : TG C ops o σ u' := (TG_keep har hR hy a1 (fun t h e => a2 t h e) (by rcases hc' with h | h | h <;> simp [h])).2 ho
  have h2 := (TG_keep (u := u) har hR h1 a3 (fun t h e => a2 t e h) (by rcases hc' with h | h | h <;> simp [h])).1 hy
  refine ⟨h1, h2, app_comm a2 ?_⟩
  obtain ⟨s0, s1, _⟩ := TG_shape hy
  obtain ⟨t0, t1, _⟩ := TG_shape h1
  rcases hc' with h | h | ⟨h, h'⟩
  · exact .inl (s0 h)
  · exact .inr (.inl (t0 h))
  · exact .inr (.inr ⟨s1 h, t1 h'⟩)
theorem front (hS : Stab C.L) (hL : C.L w0.t) (har : ops = ar.toList) : ∀ (l1 : List Oper) (σ : St), (∀ y ∈ l1, y.apart ar o = true ∧ compat y o = true ∧ ∀ d, y.dst = some d → d < m) → (∃ a W, Rel w0 S m σ a W) → wpR C ops (l1 ++ o :: l2) k σ → exG C ops o (wpR C ops (l1 ++ l2) k) σ
  | [], σ, _, _, h => h
  | y :: l1, σ, hy, hR, h => by
    obtain ⟨u, h1, h2⟩ := exG_T.1 (show exG C ops y (wpR C ops (l1 ++ o :: l2) k) σ from h)
    obtain ⟨p1, p2, p3⟩ := hy y (by simp)
    have h3 := front hS hL har l1 _ (fun z hz => hy z (by simp [hz])) (real_step hS hL har p3 hR h1) h2
    obtain ⟨u', h4, h5⟩ := exG_T.1 h3
    obtain ⟨c1, c2, c3⟩ := comm hS hL har hR h1 h4 p1 p2
    rw [c3] at h5
    exact exG_T.2 ⟨u', c1, (exG_T.2 ⟨u, c2, h5⟩ : exG C ops y (wpR C ops (l1 ++ l2) k) _)⟩
/-- What isn't listed yet. -/
def remL : List Oper → Nat → Array Bool → List Oper
  | [], _, _ => []
  | o :: l, k, listed => if listed.getD k true = true then remL l (k + 1) listed else o :: remL l (k + 1) listed
theorem remL_at : ∀ (l : List Oper) (k : Nat) (listed : Array Bool) (i : Nat) (o : Oper), l[i]? = some o → listed.getD (k + i) true = false → ∃ l1 l2, remL l k listed = l1 ++ o :: l2 ∧ remL l k (listed.setIfInBounds (k + i) true) = l1 ++ l2 ∧
    ∀ y ∈ l1, ∃ j, j < i ∧ l[j]? = some y ∧ listed.getD (k + j) true = false
  | [], k, listed, i, o, h, _ => by simp at h
  | x :: l, k, listed, 0, o, h, hu => by
    simp only [List.getElem?_cons_zero, Option.some.injEq] at h
    subst h
    rw [Nat.add_zero] at hu ⊢
    have hsz : k < listed.size := by
      rcases Nat.lt_or_ge k listed.size with h | h
      · exact h
      · rw [Array.getD_eq_getD_getElem?, Array.getElem?_eq_none h] at hu; cases hu
    have hrest : ∀ (l : List Oper) (n : Nat), k < n → remL l n (listed.setIfInBounds k true) = remL l n listed := by
      intro l
      induction l with
      | nil => intro n _; rfl
      | cons z l ih =>
        intro n hn
        simp only [remL]
        rw [ih (n + 1) (by omega), Array.getD_eq_getD_getElem?, Array.getElem?_setIfInBounds_ne (by omega), ← Array.getD_eq_getD_getElem?]
    refine ⟨[], remL l (k + 1) listed, ?_, ?_, fun y hy => by cases hy⟩
    · simp only [remL]; rw [if_neg (by rw [hu]; simp)]; rfl
    · simp only [remL]
      rw [if_pos (by rw [Array.getD_eq_getD_getElem?, Array.getElem?_setIfInBounds_self_of_lt hsz]; rfl), hrest l (k + 1) (by omega)]
      rfl
  | x :: l, k, listed, i + 1, o, h, hu => by
    rw [List.getElem?_cons_succ] at h
    rw [show k + (i + 1) = k + 1 + i by omega] at hu ⊢
    obtain ⟨l1, l2, h1, h2, h3⟩ := remL_at l (k + 1) listed i o h hu
    have hk : (listed.setIfInBounds (k + 1 + i) true).getD k true = listed.getD k true := by
      rw [Array.getD_eq_getD_getElem?, Array.getElem?_setIfInBounds_ne (by omega), ← Array.getD_eq_getD_getElem?]
    by_cases hx : listed.getD k true = true
    · refine ⟨l1, l2, ?_, ?_, fun y hy => ?_⟩
      · simp only [remL]; rw [if_pos hx]; exact h1
      · simp only [remL]; rw [if_pos (by rw [hk]; exact hx)]; exact h2
      · obtain ⟨j, hj, e1, e2⟩ := h3 y hy
        exact ⟨j + 1, by omega, by rw [List.getElem?_cons_succ]; exact e1, by rw [show k + (j + 1) = k + 1 + j by omega]; exact e2⟩
    · refine ⟨x :: l1, l2, ?_, ?_, fun y hy => ?_⟩
      · simp only [remL]; rw [if_neg hx, h1]; rfl
      · simp only [remL]; rw [if_neg (by rw [hk]; exact hx), h2]; rfl
      · rcases List.mem_cons.1 hy with rfl | hy
        · exact ⟨0, by omega, rfl, by simpa using hx⟩
        · obtain ⟨j, hj, e1, e2⟩ := h3 y hy
          exact ⟨j + 1, by omega, by rw [List.getElem?_cons_succ]; exact e1, by rw [show k + (j + 1) = k + 1 + j by omega]; exact e2⟩
theorem remL_nil : ∀ (l : List Oper) (k : Nat) (listed : Array Bool), (∀ i, i < l.length → listed.getD (k + i) true = true) → remL l k listed = []
  | [], _, _, _ => rfl
  | x :: l, k, listed, h => by
    simp only [remL]
    rw [if_pos (by simpa using h 0 (by simp))]
    exact remL_nil l (k + 1) listed fun i hi => by rw [show k + 1 + i = k + (i + 1) by omega]; exact h (i + 1) (by simpa using hi)
theorem least {p : Nat → Prop} [DecidablePred p] : ∀ (n : Nat), (∃ i, i < n ∧ p i) → ∃ i, i < n ∧ p i ∧ ∀ j, j < i → ¬ p j
  | 0, ⟨i, h, _⟩ => by omega
  | n + 1, ⟨i, h, hp⟩ => by
    by_cases h1 : ∃ i, i < n ∧ p i
    · obtain ⟨i, h2, h3, h4⟩ := least n h1
      exact ⟨i, by omega, h3, h4⟩
    · have : i = n := by
        rcases Nat.lt_or_ge i n with h2 | h2
        · exact absurd ⟨i, h2, hp⟩ h1
        · omega
      subst this
      exact ⟨i, by omega, hp, fun j hj hpj => h1 ⟨j, hj, hpj⟩⟩
theorem any_ok (hS : Stab C.L) (hL : C.L w0.t) (hd : drawOk ar = true) (hm : ∀ o ∈ ar.toList, ∀ d, o.dst = some d → d < m) {Q : Exit → Act → World → Prop} (hK : ∀ σ' a' W', k σ' → Rel w0 S m σ' a' W' → Q .normal a' W') :
    ∀ (fuel : Nat) (listed : Array Bool) (σ : St) (a : Act) (W : World), Closed ar listed → listed.size = ar.size → (remL ar.toList 0 listed).length ≤ fuel → Rel w0 S m σ a W → wpR C ar.toList (remL ar.toList 0 listed) k σ → wpAny C.P .any ar Q fuel listed a W := by
  have hready : ∀ (listed : Array Bool) (i : Nat), Closed ar listed → i ∈ Region.ready .any ar listed → (∀ o, ar[i]? = some o → ∀ e ∈ o.after, Region.binds .any e = true → listed.getD e.on false = true) ∧ ∃ o l1 l2, ar[i]? = some o ∧ remL ar.toList 0 listed = l1 ++ o :: l2 ∧ remL ar.toList 0 (listed.setIfInBounds i true) = l1 ++ l2 ∧ ∀ y ∈ l1, y.apart ar o = true ∧ compat y o = true ∧ ∀ d, y.dst = some d → d < m := by
    intro listed i hcl hi
    obtain ⟨h1, o, h2, h3⟩ := mem_ready.1 hi
    have hpre : ∀ o, ar[i]? = some o → ∀ e ∈ o.after, Region.binds .any e = true → listed.getD e.on false = true := fun o' ho' => by
      rw [h2] at ho'
      obtain rfl := Option.some.inj ho'
      exact h3
    refine ⟨hpre, ?_⟩
    have h1 : listed.getD i true = false := by simpa using h1
    obtain ⟨l1, l2, r1, r2, r3⟩ := remL_at ar.toList 0 listed i o (by rw [Array.getElem?_toList]; exact h2) (by rw [Nat.zero_add]; exact h1)
    rw [Nat.zero_add] at r2
    refine ⟨o, l1, l2, h2, r1, r2, fun y hy => ?_⟩
    obtain ⟨j, hj, e1, e2⟩ := r3 y hy
    rw [Nat.zero_add] at e2
    have e1' : ar[j]? = some y := by rw [← Array.getElem?_toList]; exact e1
    rcases (drawOk_spec hd h2).2 j y hj e1' with hr | ⟨p1, p2⟩
    · have := rch_listed hcl _ _ _ hpre hr
      rw [Array.getD_eq_getD_getElem?] at this e2
      cases hx : listed[j]? with
      | none => rw [hx] at this; cases this
      | some b => rw [hx] at this e2; simp only [Option.getD_some] at this e2; rw [this] at e2; cases e2
    · exact ⟨p1, p2, hm y (List.mem_of_getElem? e1)⟩
  have hempty : ∀ (listed : Array Bool), listed.size = ar.size → Region.ready .any ar listed = [] → remL ar.toList 0 listed = [] := by
    intro listed hsz hr
    refine remL_nil _ _ _ fun i hi => ?_
    rw [Nat.zero_add]
    cases hu : listed.getD i true with
    | true => rfl
    | false =>
      obtain ⟨i0, h1, h2, h3⟩ := least (p := fun i => listed.getD i true = false) ar.toList.length ⟨i, hi, hu⟩
      have hi0 : i0 < ar.size := by simpa using h1
      have : i0 ∈ Region.ready .any ar listed := mem_ready.2 ⟨by simpa using h2, _, Array.getElem?_eq_getElem hi0, fun e he hb => by
        have hlt := (drawOk_spec hd (Array.getElem?_eq_getElem hi0)).1 e he hb
        have := h3 e.on hlt
        rw [Array.getD_eq_getD_getElem?] at this ⊢
        have hlt2 : e.on < listed.size := by omega
        rw [Array.getElem?_eq_getElem hlt2] at this ⊢
        simpa using this⟩
      rw [hr] at this
      cases this
  intro fuel
  induction fuel with
  | zero =>
    intro listed σ a W hcl hsz hlen hR h
    have hnil : remL ar.toList 0 listed = [] := List.eq_nil_of_length_eq_zero (by omega)
    refine ⟨?_, ?_⟩
    · cases hr : Region.ready .any ar listed with
      | nil => rfl
      | cons i rs =>
        obtain ⟨_, o, l1, l2, _, h2, _⟩ := hready listed i hcl (by rw [hr]; simp)
        rw [hnil] at h2
        simp at h2
    · rw [hnil] at h
      exact hK _ _ _ h hR
  | succ fuel ih =>
    intro listed σ a W hcl hsz hlen hR h
    refine ⟨fun hr => ?_, fun i hi => ?_⟩
    · rw [hempty listed hsz hr] at h
      exact hK _ _ _ h hR
    · obtain ⟨hpre, o, l1, l2, h1, h2, h3, h4⟩ := hready listed i hcl hi
      rw [h2] at h
      have h5 := front (C := C) (ar := ar) hS hL rfl l1 σ h4 ⟨a, W, hR⟩ h
      unfold wpOp
      rw [h1]
      dsimp only
      obtain ⟨G, F, hG⟩ := hR
      refine exG_ok hG (hm o (by rw [← Array.getElem?_toList] at h1; exact List.mem_of_getElem? h1)) (hS _ _ hL hG.below.top) h5 fun σ' a' W' hk hR' => ih _ σ' a' W' (closed_set hcl hpre) (by simp [hsz]) (by rw [h3]; rw [h2] at hlen; simp at hlen ⊢; omega) hR' (by rw [h3]; exact hk)
/-- A region whose order is drawn. -/
theorem region_ok (hS : Stab C.L) (hL : C.L w0.t) (hx : C.P.follows .mixedOrders = true) (hd : drawOk ar = true) (hm : ∀ o ∈ ar.toList, ∀ d, o.dst = some d → d < m) {Q : Exit → Act → World → Prop} {a : Act} {W : World} {id : Nat} (hR : Rel w0 S m σ a W) (h : wpR C ar.toList ar.toList k σ)
    (hK : ∀ σ' a' W', k σ' → Rel w0 S m σ' a' W' → Q .normal a' W') : (Code.region id ar true).wp C.P Q a W := by
  have hfull : ∀ (l : List Oper) (n : Nat), n + l.length ≤ ar.size → remL l n (Array.replicate ar.size false) = l := by
    intro l
    induction l with
    | nil => intro n _; rfl
    | cons x l ih =>
      intro n hn
      simp only [List.length_cons] at hn
      simp only [remL]
      rw [if_neg (by rw [Array.getD_eq_getD_getElem?, Array.getElem?_replicate, if_pos (by omega)]; simp), ih (n + 1) (by omega)]
  have hrem := hfull ar.toList 0 (by simp)
  obtain ⟨G, F, hG⟩ := hR
  have hG' : RelG w0 S m G F σ a { W with drawn := W.drawn + 1 } := by
    refine ⟨⟨hG.below.os, hG.below.tape, hG.below.output, hG.below.size, hG.below.block⟩, hG.size, fun t => (hG.slot t).keep fun _ _ => rfl, fun i b hb => (hG.blk i b hb).keep (fun _ _ => rfl) fun _ _ => rfl, hG.own, hG.apart, hG.fin, hG.defers, hG.wf, hG.wfb, hG.fix, hG.mlt⟩
  exact wp_region_any hx (any_ok hS hL hd hm hK ar.size _ σ a _ (fun i o _ h => by rw [Array.getD_eq_getD_getElem?, Array.getElem?_replicate] at h; split at h <;> cases h) (by simp) (by rw [hrem]; simp) ⟨G, F, hG'⟩ (by rw [hrem]; exact h))
end
end Go.Proofs.YtikmkgoeepgbkaaGreatDoor.Ev
namespace Go.Proofs.YtikmkgoeepgbkaaGreatDoor.Ev
open Go.RowKit
open Go.Proofs.YtikmkgoeepgbkaaGreatDoor.Mem
set_option linter.unusedVariables false
set_option linter.unusedSimpArgs false

mutual
/-- All blocks that a value names are among these. -/
def inM (al : Nat → Bool) : V → Bool
  | .p i _ => al i
  | .ow i _ => al i
  | .pe i _ _ _ => al i
  | .ag l => inML al l
  | .tp l => inML al l
  | .it _ v => inM al v
  | _ => true
def inML (al : Nat → Bool) : List V → Bool
  | [] => true
  | v :: l => inM al v && inML al l
end
mutual
/-- Blocks have other names. -/
def rnV (ρ : Nat → Nat) : V → V
  | .p i o => .p (ρ i) o
  | .ow i n => .ow (ρ i) n
  | .pe i z q o => .pe (ρ i) z q o
  | .ag l => .ag (rnL ρ l)
  | .tp l => .tp (rnL ρ l)
  | .it t v => .it t (rnV ρ v)
  | v => v
def rnL (ρ : Nat → Nat) : List V → List V
  | [] => []
  | v :: l => rnV ρ v :: rnL ρ l
end
def rnB (ρ : Nat → Nat) : Bk → Bk
  | .cells T l => .cells T (rnL ρ l)
  | b => b
mutual
theorem inM_men {al : Nat → Bool} : ∀ (v : V) (i : Nat), inM al v = true → men v i = true → al i = true
  | .p a _, i, h, hm => by simp only [men, beq_iff_eq] at hm; subst hm; exact h
  | .ow a _, i, h, hm => by simp only [men, beq_iff_eq] at hm; subst hm; exact h
  | .pe a _ _ _, i, h, hm => by simp only [men, beq_iff_eq] at hm; subst hm; exact h
  | .ag l, i, h, hm => inML_men l i (by simpa only [inM] using h) (by simpa only [men] using hm)
  | .tp l, i, h, hm => inML_men l i (by simpa only [inM] using h) (by simpa only [men] using hm)
  | .it _ v, i, h, hm => inM_men v i (by simpa only [inM] using h) (by simpa only [men] using hm)
  | .j, i, h, hm => by simp [men] at hm
  | .b _, i, h, hm => by simp [men] at hm
  | .n _ _, i, h, hm => by simp [men] at hm
  | .s _, i, h, hm => by simp [men] at hm
  | .nl, i, h, hm => by simp [men] at hm
  | .sl _ _ _ _ _, i, h, hm => by simp [men] at hm
  | .px _, i, h, hm => by simp [men] at hm
  | .pn, i, h, hm => by simp [men] at hm
  | .inil, i, h, hm => by simp [men] at hm
  | .fn _, i, h, hm => by simp [men] at hm
  | .gl _ _, i, h, hm => by simp [men] at hm
theorem inML_men {al : Nat → Bool} : ∀ (l : List V) (i : Nat), inML al l = true → menL l i = true → al i = true
  | [], i, h, hm => by simp [menL] at hm
  | v :: l, i, h, hm => by
    simp only [inML, Bool.and_eq_true] at h
    simp only [menL, Bool.or_eq_true] at hm
    rcases hm with hm | hm
    · exact inM_men v i h.1 hm
    · exact inML_men l i h.2 hm
end
theorem rnL_get {ρ : Nat → Nat} : ∀ (l : List V) (q : Nat), (rnL ρ l)[q]? = (l[q]?).map (rnV ρ)
  | [], q => by simp [rnL]
  | v :: l, 0 => by simp [rnL]
  | v :: l, q + 1 => by simp [rnL, rnL_get l q]
theorem rnL_len {ρ : Nat → Nat} : ∀ (l : List V), (rnL ρ l).length = l.length
  | [] => rfl
  | v :: l => by simp [rnL, rnL_len l]
mutual
theorem men_rnV {ρ : Nat → Nat} : ∀ (v : V) (i : Nat), men (rnV ρ v) i = true → ∃ k, men v k = true ∧ i = ρ k
  | .p a _, i, h => by simp only [rnV, men, beq_iff_eq] at h; exact ⟨a, by simp [men], h.symm⟩
  | .ow a _, i, h => by simp only [rnV, men, beq_iff_eq] at h; exact ⟨a, by simp [men], h.symm⟩
  | .pe a _ _ _, i, h => by simp only [rnV, men, beq_iff_eq] at h; exact ⟨a, by simp [men], h.symm⟩
  | .ag l, i, h => by
    obtain ⟨k, h1, h2⟩ := men_rnL l i (by simpa only [rnV, men] using h)
    exact ⟨k, by simpa only [men] using h1, h2⟩
  | .tp l, i, h => by
    obtain ⟨k, h1, h2⟩ := men_rnL l i (by simpa only [rnV, men] using h)
    exact ⟨k, by simpa only [men] using h1, h2⟩
  | .it _ v, i, h => by
    obtain ⟨k, h1, h2⟩ := men_rnV v i (by simpa only [rnV, men] using h)
    exact ⟨k, by simpa only [men] using h1, h2⟩
  | .j, i, h => by simp [rnV, men] at h
  | .b _, i, h => by simp [rnV, men] at h
  | .n _ _, i, h => by simp [rnV, men] at h
  | .s _, i, h => by simp [rnV, men] at h
  | .nl, i, h => by simp [rnV, men] at h
  | .sl _ _ _ _ _, i, h => by simp [rnV, men] at h
  | .px _, i, h => by simp [rnV, men] at h
  | .pn, i, h => by simp [rnV, men] at h
  | .inil, i, h => by simp [rnV, men] at h
  | .fn _, i, h => by simp [rnV, men] at h
  | .gl _ _, i, h => by simp [rnV, men] at h
theorem men_rnL {ρ : Nat → Nat} : ∀ (l : List V) (i : Nat), menL (rnL ρ l) i = true → ∃ k, menL l k = true ∧ i = ρ k
  | [], i, h => by simp [rnL, menL] at h
  | v :: l, i, h => by
    simp only [rnL, menL, Bool.or_eq_true] at h
    rcases h with h | h
    · obtain ⟨k, h1, h2⟩ := men_rnV v i h
      exact ⟨k, by simp [menL, h1], h2⟩
    · obtain ⟨k, h1, h2⟩ := men_rnL l i h
      exact ⟨k, by simp [menL, h1], h2⟩
end
theorem Rep.rename {F : Nat → Prop} {W : World} {G G2 : Gm} {ρ : Nat → Nat} {r : V} {x : Value} (h : Rep F W G r x) : (∀ k, men r k = true → G2 (ρ k) = G k) → Rep F W G2 (rnV ρ r) x := by
  induction h with
  | ag G l vs hl hr ih =>
    intro hk
    simp only [rnV]
    refine .ag _ _ _ (by rw [hl, rnL_len]) fun q y v e1 e2 => ?_
    rw [rnL_get] at e1
    cases hq : l[q]? with
    | none => rw [hq] at e1; cases e1
    | some y' =>
      rw [hq, Option.map_some, Option.some.injEq] at e1
      rw [← e1]
      exact ih q y' v hq e2 fun k hm => hk k (by simp only [men]; exact menL_of hq hm)
  | tp G l vs hl hr ih =>
    intro hk
    simp only [rnV]
    refine .tp _ _ _ (by rw [hl, rnL_len]) fun q y v e1 e2 => ?_
    rw [rnL_get] at e1
    cases hq : l[q]? with
    | none => rw [hq] at e1; cases e1
    | some y' =>
      rw [hq, Option.map_some, Option.some.injEq] at e1
      rw [← e1]
      exact ih q y' v hq e2 fun k hm => hk k (by simp only [men]; exact menL_of hq hm)
  | it G t v x h ih => intro hk; simp only [rnV]; exact .it _ _ _ _ (ih fun k hm => hk k (by simpa only [men] using hm))
  | ow G id len ao c h => intro hk; simp only [rnV]; exact .ow _ _ _ _ _ (by rw [hk id (by simp [men])]; exact h)
  | p G id off => intro hk; simp only [rnV]; rw [← hk id (by simp [men])]; exact .p _ _ _
  | pe G id z i off => intro hk; simp only [rnV]; rw [← hk id (by simp [men])]; exact .pe _ _ _ _ _
  | sl G z α d l e g o c u hg hc hn hz hu hr ih => intro hk; simp only [rnV]; exact .sl _ z α d l e g o c u hg hc hn hz hu hr
  | px G v g o u hg hn hu hr ih => intro hk; simp only [rnV]; exact .px _ v g o u hg hn hu hr
  | _ => intro hk; simp only [rnV]; constructor
theorem Rep.named {F : Nat → Prop} {W : World} {G : Gm} {ρ : Nat → Nat} {v0 : V} {x : Value} (h : Rep F W G v0 x) : ∀ v, v0 = rnV ρ v → Rep F W (fun i => G (ρ i)) v x := by
  induction h with
  | ag G l vs hl hr ih =>
    intro v hv
    cases v <;> simp only [rnV] at hv <;> try (first | cases hv | done)
    rename_i l'
    exact .ag _ _ _ (by rw [hl, rnL_len]) fun q y v e1 e2 => ih q (rnV ρ y) v (by rw [rnL_get, e1]; rfl) e2 y rfl
  | tp G l vs hl hr ih =>
    intro v hv
    cases v <;> simp only [rnV] at hv <;> try (first | cases hv | done)
    rename_i l'
    exact .tp _ _ _ (by rw [hl, rnL_len]) fun q y v e1 e2 => ih q (rnV ρ y) v (by rw [rnL_get, e1]; rfl) e2 y rfl
  | it G t v0 x h ih =>
    intro v hv
    cases v <;> simp only [rnV] at hv <;> try (first | cases hv | done)
    exact .it _ _ _ _ (ih _ rfl)
  | ow G id len ao c h =>
    intro v hv
    cases v <;> simp only [rnV] at hv <;> try (first | cases hv | done)
    exact .ow _ _ _ _ _ h
  | p G id off =>
    intro v hv
    cases v <;> simp only [rnV] at hv <;> try (first | cases hv | done)
    exact .p (fun i => G (ρ i)) _ _
  | pe G id z i off =>
    intro v hv
    cases v <;> simp only [rnV] at hv <;> try (first | cases hv | done)
    exact .pe (fun i => G (ρ i)) _ _ _ _
  | sl G z α d l e g o c u hg hc hn hz hu hr ih =>
    intro v hv
    cases v <;> simp only [rnV] at hv <;> try (first | cases hv | done)
    exact .sl _ z α d l e g o c u hg hc hn hz hu hr
  | px G v0 g o u hg hn hu hr ih =>
    intro v hv
    cases v <;> simp only [rnV] at hv <;> try (first | cases hv | done)
    exact .px _ _ g o u hg hn hu hr
  | _ =>
    intro v hv
    cases v <;> simp only [rnV] at hv <;> (first | (cases hv; done) | (cases hv; constructor))
end Go.Proofs.YtikmkgoeepgbkaaGreatDoor.Ev
namespace Go.Proofs.YtikmkgoeepgbkaaGreatDoor.Ev
open Go.RowKit
open Go.Proofs.YtikmkgoeepgbkaaGreatDoor.Mem
set_option linter.unusedVariables false
set_option linter.unusedSimpArgs false

/-- One of the blocks that were given. -/
def obB (G : Gm) (B : List (Nat × Bk)) (g : Nat) : Prop := ∃ p ∈ B, p.2.ob G p.1 g
/-- Blocks that stand apart from one another. -/
def apB (G : Gm) (B : List (Nat × Bk)) : Prop := ∀ p ∈ B, ∀ q ∈ B, p.1 ≠ q.1 → ∀ g, p.2.ob G p.1 g → ¬ q.2.ob G q.1 g
def keyB (B : List (Nat × Bk)) (i : Nat) : Prop := ∃ b, (i, b) ∈ B
structure Frm (G : Gm) (B : List (Nat × Bk)) (W W' : World) : Prop where
  os : W'.os = W.os
  tape : W'.tape = W.tape
  output : W'.output = W.output
  size : W.heap.size ≤ W'.heap.size
  block : ∀ g, g < W.heap.size → ¬ obB G B g → W'.heap[g]? = W.heap[g]?
/-- What a call gives, and makes of blocks that it is given. Names from 1000000000 on stand for the same places ahead and behind. -/
def SpecP (P : Program) (L : World → Prop) (f : Nat) (av : List V) (B : List (Nat × Bk)) (r : V) (B' : List (Nat × Bk)) : Prop :=
  (∃ fn, P.funcs[f]? = some fn ∧ fn.body.isNone = false ∧ (fn.name == "runtime.NumGoroutine") = false) ∧
  ((B.map (·.1)).Nodup ∧ (B'.map (·.1)).Nodup ∧ (∀ k, men r k = true → keyB B' k) ∧ (∀ p ∈ B', ∀ k, p.2.men k = true → keyB B' k) ∧ ∀ k, 1000000000 ≤ k → keyB B' k → keyB B k) ∧
  ∀ (S : Nat → Prop) (t W : World) (G : Gm) (xs : Array Value), L t → Below t.heap.size t W → xs.size = av.length → (∀ (q : Nat) (y : V) (v : Value), av[q]? = some y → xs[q]? = some v → Rep S W G y v) → (∀ g, S g → g < W.heap.size) →
    (∀ p ∈ B, BkRep S W G p.1 p.2 ∧ ∀ g, p.2.ob G p.1 g → t.heap.size ≤ g ∧ g < W.heap.size ∧ ¬ S g) → apB G B →
    Calls P f xs W fun e W' => ∃ v F' G', e = .returned v ∧ Frm G B W W' ∧ (∀ g, F' g → g < W'.heap.size ∧ (W.heap.size ≤ g ∨ obB G B g ∨ S g)) ∧ Rep F' W' G' r v ∧
      (∀ p ∈ B', BkRep F' W' G' p.1 p.2 ∧ ∀ g, p.2.ob G' p.1 g → (W.heap.size ≤ g ∨ obB G B g) ∧ g < W'.heap.size ∧ ¬ F' g) ∧ apB G' B' ∧ ∀ k, 1000000000 ≤ k → keyB B k → G' k = G k
/-- The state behind it: new names for what comes back. -/
def St.giv (σ : St) (d : Nat) (r : V) (B B' : List (Nat × Bk)) (ρ ρ' : Nat → Nat) : St :=
  { sl := fun t => if t = d then rnV ρ' r else σ.sl t
    bk := fun i => match (B'.map fun p => (ρ' p.1, rnB ρ' p.2)).lookup i with
      | some b => some b
      | none => bif (B.map fun p => ρ p.1).contains i then none else σ.bk i
    al := fun i => (B'.map fun p => ρ' p.1).contains i || σ.al i }
def xCallP (P : Program) (L : World → Prop) (f d : Nat) (av : List V) (σ : St) (k : St → Prop) : Prop :=
  ∃ bs B r B' ρ ρ', leL av (rnL ρ bs) ∧ (∀ p ∈ B, σ.bk (ρ p.1) = some (rnB ρ p.2)) ∧ (∀ p ∈ B, ∀ q ∈ B, ρ p.1 = ρ q.1 → p.1 = q.1) ∧ SpecP P L f bs B r B' ∧
    (∀ p ∈ B', if 1000000000 ≤ p.1 then ρ' p.1 = ρ p.1 else σ.al (ρ' p.1) = false ∧ ρ' p.1 < 1000000000) ∧ (∀ p ∈ B', ∀ q ∈ B', ρ' p.1 = ρ' q.1 → p.1 = q.1) ∧ k (σ.giv d r B B' ρ ρ')
section
variable {P : Program} {L : World → Prop} {o : Oper} {w0 : Bs} {S : Nat → Prop} {m : Nat} {G : Gm} {F F' : Nat → Prop} {σ : St} {a : Act} {W W' : World} {k : St → Prop}
theorem ob_rnB {ρ : Nat → Nat} {b : Bk} {i : Nat} {G2 G' : Gm} (h : G2 (ρ i) = G' i) (g : Nat) : (rnB ρ b).ob G2 (ρ i) g ↔ b.ob G' i g := by
  cases b <;> simp only [rnB, Bk.ob, h]
theorem bk_rnB {ρ : Nat → Nat} {b : Bk} {i : Nat} {G2 G' : Gm} (h : BkRep F W G' i b) (hi : G2 (ρ i) = G' i) (hm : ∀ k, b.men k = true → G2 (ρ k) = G' k) : BkRep F W G2 (ρ i) (rnB ρ b) := by
  cases b with
  | cells T l =>
    obtain ⟨c, h1, h2, h3⟩ := h
    refine ⟨c, by rw [hi]; exact h1, by rw [h2, rnL_len], fun q y v e1 e2 => ?_⟩
    rw [rnL_get] at e1
    cases hq : l[q]? with
    | none => rw [hq] at e1; cases e1
    | some y' =>
      rw [hq, Option.map_some, Option.some.injEq] at e1
      rw [← e1]
      exact (h3 q y' v hq e2).rename fun k hk => hm k (menL_of hq hk)
  | row T z α d l e c =>
    obtain ⟨xs, h1, h2, h3⟩ := h
    exact ⟨xs, by rw [hi]; exact h1, by rw [hi]; exact h2, h3⟩
  | itr l p =>
    show W.heap[(G2 (ρ i)).1]? = _
    rw [hi]
    exact h
theorem lookup_map {B : List (Nat × Bk)} {ρ : Nat → Nat} {i : Nat} {b : Bk} (h : (B.map fun p => (ρ p.1, rnB ρ p.2)).lookup i = some b) : ∃ p ∈ B, ρ p.1 = i ∧ b = rnB ρ p.2 := by
  induction B with
  | nil => simp at h
  | cons p l ih =>
    rw [List.map_cons, List.lookup_cons] at h
    cases e : i == ρ p.1 with
    | true =>
      rw [e] at h
      simp only [Option.some.injEq] at h
      exact ⟨p, by simp, (beq_iff_eq.1 e).symm, h.symm⟩
    | false =>
      rw [e] at h
      obtain ⟨q, hq, h1⟩ := ih h
      exact ⟨q, by simp [hq], h1⟩
theorem lookup_no {B : List (Nat × Bk)} {ρ : Nat → Nat} {i : Nat} (h : (B.map fun p => (ρ p.1, rnB ρ p.2)).lookup i = none) : ∀ p ∈ B, ρ p.1 ≠ i := by
  induction B with
  | nil => simp
  | cons p l ih =>
    rw [List.map_cons, List.lookup_cons] at h
    cases e : i == ρ p.1 with
    | true => rw [e] at h; cases h
    | false =>
      rw [e] at h
      intro q hq
      rcases List.mem_cons.1 hq with rfl | hq
      · intro e2
        rw [e2] at e
        simp at e
      · exact ih h q hq
theorem RelG.calledP (hR : RelG w0 S m G F σ a W) {d : Nat} (hd : d < m) {B B' : List (Nat × Bk)} {ρ ρ' : Nat → Nat} {G' : Gm} {r : V} {x : Value}
    (hB : ∀ p ∈ B, σ.bk (ρ p.1) = some (rnB ρ p.2)) (hfix : ∀ k, 1000000000 ≤ k → keyB B k → G' k = G (ρ k)) (hk1 : ∀ k, men r k = true → keyB B' k) (hk2 : ∀ p ∈ B', ∀ k, p.2.men k = true → keyB B' k) (hk3 : ∀ k, 1000000000 ≤ k → keyB B' k → keyB B k)
    (hρ : ∀ p ∈ B', if 1000000000 ≤ p.1 then ρ' p.1 = ρ p.1 else σ.al (ρ' p.1) = false ∧ ρ' p.1 < 1000000000) (hinj : ∀ p ∈ B', ∀ q ∈ B', ρ' p.1 = ρ' q.1 → p.1 = q.1) (hnd : (B'.map (·.1)).Nodup)
    (hW : Frm (fun i => G (ρ i)) B W W') (hF' : ∀ g, F' g → g < W'.heap.size ∧ (W.heap.size ≤ g ∨ obB (fun i => G (ρ i)) B g ∨ F g)) (hr : Rep F' W' G' r x)
    (hb : ∀ p ∈ B', BkRep F' W' G' p.1 p.2 ∧ ∀ g, p.2.ob G' p.1 g → (W.heap.size ≤ g ∨ obB (fun i => G (ρ i)) B g) ∧ g < W'.heap.size ∧ ¬ F' g) (hap : apB G' B') :
    ∃ G2, RelG w0 S m G2 (fun g => (F g ∧ ¬ obB (fun i => G (ρ i)) B g) ∨ F' g) (σ.giv d r B B' ρ ρ') (a.put (some d) x) W' := by
  classical
  let G2 : Gm := fun i => if h : ∃ p ∈ B', ρ' p.1 = i then G' (Classical.choose h).1 else G i
  have hnew : ∀ k, keyB B' k → G2 (ρ' k) = G' k := fun k ⟨b, hk⟩ => by
    have h : ∃ p ∈ B', ρ' p.1 = ρ' k := ⟨_, hk, rfl⟩
    show (if h : ∃ p ∈ B', ρ' p.1 = ρ' k then G' (Classical.choose h).1 else G (ρ' k)) = _
    rw [dif_pos h]
    obtain ⟨h1, h2⟩ := Classical.choose_spec h
    rw [hinj _ h1 _ hk h2]
  have hobF : ∀ g, obB (fun i => G (ρ i)) B g → ∃ i b, σ.bk i = some b ∧ b.ob G i g ∧ ∃ p ∈ B, ρ p.1 = i := fun g ⟨p, hp, h⟩ => by
    refine ⟨ρ p.1, _, hB p hp, ?_, p, hp, rfl⟩
    exact (ob_rnB (G2 := G) (G' := fun i => G (ρ i)) rfl g).2 h
  have hold : ∀ i, σ.al i = true → G2 i = G i := fun i hi => by
    by_cases h : ∃ p ∈ B', ρ' p.1 = i
    · obtain ⟨p, hp, rfl⟩ := h
      rw [hnew p.1 ⟨_, hp⟩]
      have := hρ p hp
      split at this
      · rename_i hc
        rw [this, hfix p.1 hc (hk3 p.1 hc ⟨_, hp⟩)]
      · rw [this.1] at hi; cases hi
    · show (if h : ∃ p ∈ B', ρ' p.1 = i then G' (Classical.choose h).1 else G i) = _
      rw [dif_neg h]
  have hF : ∀ g, F g → W'.heap[g]? = W.heap[g]? := fun g hg => hW.block g (hR.fin g hg).1 fun ho => by
    obtain ⟨i, b, h1, h2, _⟩ := hobF g ho
    exact (hR.own i b g h1 h2).2.2 hg
  have hFn : ∀ g, F g → ¬ obB (fun i => G (ρ i)) B g := fun g hg ho => by
    obtain ⟨i, b, h1, h2, _⟩ := hobF g ho
    exact (hR.own i b g h1 h2).2.2 hg
  have wid : ∀ {v : V} {u : Value} {G : Gm}, Rep F W' G v u → Rep (fun g => (F g ∧ ¬ obB (fun i => G (ρ i)) B g) ∨ F' g) W' G v u → True := fun _ _ => trivial
  have wd : ∀ g, F g → ((F g ∧ ¬ obB (fun i => G (ρ i)) B g) ∨ F' g) := fun g hg => .inl ⟨hg, hFn g hg⟩
  have hmay : ∀ g, obB (fun i => G (ρ i)) B g → w0.may g := fun g ho => by
    obtain ⟨i, b, h1, h2, _⟩ := hobF g ho
    exact (hR.own i b g h1 h2).1
  have hbel : BelX w0 W W' := ⟨hW.os, hW.tape, hW.output, hW.size, fun g hg => by
    by_cases hs : g < W.heap.size
    · exact hW.block g hs fun ho => hg (hmay g ho)
    · exact absurd (.inl (Nat.le_trans hR.below.size (Nat.le_of_not_lt hs))) hg⟩
  -- which blocks there are
  have hbk : ∀ i b, (σ.giv d r B B' ρ ρ').bk i = some b → (∃ p ∈ B', ρ' p.1 = i ∧ b = rnB ρ' p.2) ∨ (σ.bk i = some b ∧ (∀ p ∈ B, ρ p.1 ≠ i) ∧ ∀ p ∈ B', ρ' p.1 ≠ i) := fun i b h => by
    simp only [St.giv] at h
    cases e : (B'.map fun p => (ρ' p.1, rnB ρ' p.2)).lookup i with
    | some b' =>
      rw [e] at h
      obtain rfl := Option.some.inj h
      exact .inl (lookup_map e)
    | none =>
      rw [e] at h
      simp only at h
      cases e2 : (B.map fun p => ρ p.1).contains i with
      | true => rw [e2] at h; cases h
      | false =>
        rw [e2] at h
        refine .inr ⟨h, fun p hp e3 => ?_, lookup_no e⟩
        have : i ∈ B.map fun p => ρ p.1 := by rw [← e3]; exact List.mem_map_of_mem hp
        rw [List.contains_iff_mem.2 this] at e2
        cases e2
  have hne : ∀ i b g, σ.bk i = some b → (∀ p ∈ B, ρ p.1 ≠ i) → b.ob G i g → ¬ obB (fun i => G (ρ i)) B g := fun i b g h1 h2 h3 ho => by
    obtain ⟨j, c, q1, q2, p, hp, q3⟩ := hobF g ho
    exact hR.apart i j b c g (fun e => h2 p hp (by rw [q3, e])) h1 q1 h3 q2
  have obo : ∀ i b g, σ.bk i = some b → (b.ob G2 i g ↔ b.ob G i g) := fun i b g h => ob_ren (hold i (hR.wfb i b h).1) g
  refine ⟨G2, hR.below.trans hbel, by simp [Act.put, hR.size], fun t => ?_, fun i b h => ?_, fun i b g h hg => ?_, fun i i' b b' g hii h h' hg => ?_, fun g hg => ?_, hR.defers, fun t i h => ?_, fun i b h => ?_, fun i A h => ?_, hR.mlt⟩
  · simp only [St.giv, Act.put]
    by_cases e : t = d
    · subst e
      rw [if_pos rfl]
      have := (hr.rename (G2 := G2) (ρ := ρ') fun k hk => hnew k (hk1 k hk)).wide (F' := fun g => (F g ∧ ¬ obB (fun i => G (ρ i)) B g) ∨ F' g) fun g => .inr
      simpa [Array.getD_eq_getD_getElem?, hR.size, hd] using this
    · rw [if_neg e]
      have := (((hR.slot t).keep hF).ren (G' := G2) fun i hi => hold i (hR.wf t i hi)).wide wd
      simpa [Array.getD_eq_getD_getElem?, Array.getElem?_setIfInBounds_ne (Ne.symm e)] using this
  · rcases hbk i b h with ⟨p, hp, rfl, rfl⟩ | ⟨h1, h2, h3⟩
    · exact (bk_rnB (hb p hp).1 (hnew p.1 ⟨_, hp⟩) fun k hk => hnew k (hk2 p hp k hk)).wide fun g => .inr
    · exact (((hR.blk i b h1).keep hF fun g hg => hW.block g (hR.own i b g h1 hg).2.1 (hne i b g h1 h2 hg)).ren (hold i (hR.wfb i b h1).1) fun k hk => hold k ((hR.wfb i b h1).2 k hk)).wide wd
  · rcases hbk i b h with ⟨p, hp, rfl, rfl⟩ | ⟨h1, h2, h3⟩
    · rw [ob_rnB (hnew p.1 ⟨_, hp⟩)] at hg
      obtain ⟨k1, k2, k3⟩ := (hb p hp).2 g hg
      refine ⟨?_, k2, fun hf => ?_⟩
      · rcases k1 with k1 | k1
        · exact .inl (Nat.le_trans hR.below.size k1)
        · exact hmay g k1
      · rcases hf with ⟨hf, hf2⟩ | hf
        · rcases k1 with k1 | k1
          · exact absurd (hR.fin g hf).1 (by omega)
          · exact hf2 k1
        · exact k3 hf
    · rw [obo i b g h1] at hg
      obtain ⟨k1, k2, k3⟩ := hR.own i b g h1 hg
      refine ⟨k1, Nat.lt_of_lt_of_le k2 hW.size, fun hf => ?_⟩
      rcases hf with ⟨hf, _⟩ | hf
      · exact k3 hf
      · rcases (hF' g hf).2 with h | h | h
        · omega
        · exact hne i b g h1 h2 hg h
        · exact k3 h
  · have mix : ∀ (i : Nat) (b : Bk) (p : Nat × Bk) (g : Nat), p ∈ B' → σ.bk i = some b → (∀ p ∈ B, ρ p.1 ≠ i) → p.2.ob G' p.1 g → ¬ b.ob G2 i g := fun i b p g hp h1 h2 hg hg' => by
      rw [obo i b g h1] at hg'
      rcases ((hb p hp).2 g hg).1 with k1 | k1
      · have := (hR.own i b g h1 hg').2.1; omega
      · exact hne i b g h1 h2 hg' k1
    rcases hbk i b h with ⟨p, hp, rfl, rfl⟩ | ⟨h1, h2, h3⟩
    · rw [ob_rnB (hnew p.1 ⟨_, hp⟩)] at hg
      rcases hbk i' b' h' with ⟨q, hq, rfl, rfl⟩ | ⟨h1', h2', h3'⟩
      · rw [ob_rnB (hnew q.1 ⟨_, hq⟩)]
        exact hap p hp q hq (fun e => hii (by rw [e])) g hg
      · exact mix i' b' p g hp h1' h2' hg
    · rcases hbk i' b' h' with ⟨q, hq, rfl, rfl⟩ | ⟨h1', h2', h3'⟩
      · rw [ob_rnB (hnew q.1 ⟨_, hq⟩)]
        exact fun hg' => mix i b q g hq h1 h2 hg' hg
      · rw [obo i b g h1] at hg
        rw [obo i' b' g h1']
        exact hR.apart i i' b b' g hii h1 h1' hg
  · rcases hg with ⟨hg, _⟩ | hg
    · obtain ⟨h1, h2⟩ := hR.fin g hg
      exact ⟨Nat.lt_of_lt_of_le h1 hW.size, h2⟩
    · obtain ⟨h1, h2⟩ := hF' g hg
      refine ⟨h1, ?_⟩
      rcases h2 with h2 | h2 | h2
      · exact .inl (.inl (Nat.le_trans hR.below.size h2))
      · exact .inl (hmay g h2)
      · exact (hR.fin g h2).2
  · simp only [St.giv] at h ⊢
    by_cases e : t = d
    · rw [if_pos e] at h
      obtain ⟨k, hk, rfl⟩ := men_rnV r i h
      obtain ⟨b, hb'⟩ := hk1 k hk
      have : ρ' k ∈ B'.map fun p => ρ' p.1 := List.mem_map_of_mem (f := fun p : Nat × Bk => ρ' p.1) hb'
      rw [List.contains_iff_mem.2 this]
      rfl
    · rw [if_neg e] at h
      rw [hR.wf t i h, Bool.or_true]
  · have alK : ∀ k, keyB B' k → (σ.giv d r B B' ρ ρ').al (ρ' k) = true := fun k ⟨b, hb'⟩ => by
      have : ρ' k ∈ B'.map fun p => ρ' p.1 := List.mem_map_of_mem (f := fun p : Nat × Bk => ρ' p.1) hb'
      simp only [St.giv]
      rw [List.contains_iff_mem.2 this]
      rfl
    rcases hbk i b h with ⟨p, hp, rfl, rfl⟩ | ⟨h1, h2, h3⟩
    · refine ⟨alK p.1 ⟨_, hp⟩, fun k hk => ?_⟩
      obtain ⟨pi, pb⟩ := p
      cases pb with
      | cells T l =>
        obtain ⟨k', hk', rfl⟩ := men_rnL l k (by simpa only [rnB, Bk.men] using hk)
        exact alK k' (hk2 _ hp k' hk')
      | row => cases hk
      | itr => cases hk
    · obtain ⟨q1, q2⟩ := hR.wfb i b h1
      exact ⟨by simp only [St.giv, q1, Bool.or_true], fun k hk => by simp only [St.giv, q2 k hk, Bool.or_true]⟩
  · obtain ⟨h1, h2⟩ := hR.fix i A h
    refine ⟨h1, ?_⟩
    by_cases hc : ∃ p ∈ B', ρ' p.1 = i
    · obtain ⟨p, hp, rfl⟩ := hc
      have := hρ p hp
      split at this
      · rename_i hc
        rw [hnew p.1 ⟨_, hp⟩, hfix p.1 hc (hk3 p.1 hc ⟨_, hp⟩), ← this]
        exact h2
      · omega
    · show (if h : ∃ p ∈ B', ρ' p.1 = i then G' (Classical.choose h).1 else G i) = _
      rw [dif_neg hc]
      exact h2
theorem callP_ok {d f : Nat} {xs : Array Operand} {ts : Array TypeId} (ho : o.op = .call { callee := .value (.func f), args := xs, argTypes := ts }) (hd : o.dst = some d) (hdm : d < m) (hR : RelG w0 S m G F σ a W) (hL : L w0.t) (h : xCallP P L f d (xs.toList.map σ.rd) σ k) : Eff P w0 S m o k a W := by
  obtain ⟨bs, B, r, B', ρ, ρ', h1, h2, h3, ⟨⟨fn, f1, f2, f3⟩, ⟨n1, n2, n3, n4, n5⟩, hS⟩, h5, h6, hk⟩ := h
  intro Kc Q hK
  unfold Oper.wp
  rw [run_call (P := P) (W := W) ho f1 f2 f3, Oper.upon_enter, hd]
  have hargs : ∀ (q : Nat) (y : V) (v : Value), (xs.toList.map σ.rd)[q]? = some y → (xs.map a.eval)[q]? = some v → Rep F W G y v := by
    intro q y v e1 e2
    rw [List.getElem?_map, Array.getElem?_toList] at e1
    rw [Array.getElem?_map] at e2
    cases hx : xs[q]? with
    | none => rw [hx] at e1; cases e1
    | some x =>
      rw [hx, Option.map_some, Option.some.injEq] at e1 e2
      rw [← e1, ← e2]
      exact hR.rd x
  obtain ⟨l1, l2⟩ := leL_get h1
  rw [rnL_len] at l1
  have hob : ∀ p ∈ B, ∀ g, p.2.ob (fun i => G (ρ i)) p.1 g → (rnB ρ p.2).ob G (ρ p.1) g := fun p hp g hg => (ob_rnB (G2 := G) (G' := fun i => G (ρ i)) rfl g).2 hg
  refine (hS F w0.t W (fun i => G (ρ i)) (xs.map a.eval) hL hR.below.top (by rw [← l1]; simp) (fun q y v e1 e2 => ?_) (fun g hg => (hR.fin g hg).1) (fun p hp => ⟨?_, fun g hg => ?_⟩) (fun p hp q hq hne g hg hg' => ?_)).mono ?_
  · obtain ⟨y', e3, e4⟩ := l2 q (rnV ρ y) (by rw [rnL_get, e1]; rfl)
    exact (le_rep (hargs q y' v e3 e2) e4).named y rfl
  · have hb := hR.blk _ _ (h2 p hp)
    obtain ⟨pi, pb⟩ := p
    cases pb with
    | cells T l =>
      obtain ⟨c, q1, q2, q3⟩ := hb
      exact ⟨c, q1, by rw [q2, rnL_len], fun q y v e1 e2 => (q3 q (rnV ρ y) v (by rw [rnL_get, e1]; rfl) e2).named y rfl⟩
    | row T z α d l e c => exact hb
    | itr l p => exact hb
  · obtain ⟨k1, k2, k3⟩ := hR.own _ _ g (h2 p hp) (hob p hp g hg)
    refine ⟨?_, k2, k3⟩
    rcases k1 with k1 | k1
    · exact Nat.le_trans w0.ht.size k1
    · exact w0.ho g k1
  · exact hR.apart (ρ p.1) (ρ q.1) _ _ g (fun e => hne (h3 p hp q hq e)) (h2 p hp) (h2 q hq) (hob p hp g hg) (hob q hq g hg')
  · rintro e W' ⟨v, F', G', rfl, hW, hF', hr, hb, hap, hfx⟩
    obtain ⟨G2, hR2⟩ := hR.calledP hdm h2 hfx n3 n4 n5 h5 h6 n2 hW hF' hr hb hap
    exact hK _ _ _ hk ⟨G2, _, hR2⟩
end
end Go.Proofs.YtikmkgoeepgbkaaGreatDoor.Ev
