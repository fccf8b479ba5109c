/- Functions that are given blocks and rows: their contracts. -/
import Derived.Test.YtjbnmeofjiokeaaGreatDoorKD
import Derived.Test.YtjbnmeofjiokeaaGreatDoorPB
set_option linter.all false
namespace Go.Proofs.YtjbnmeofjiokeaaGreatDoor.Ev
open Go.RowKit
open Go.Proofs.YtjbnmeofjiokeaaGreatDoor.Mem
set_option linter.unusedVariables false
set_option linter.unusedSimpArgs false
def iniP (l : List V) (B : List (Nat × Bk)) : St :=
  { sl := fun t => l.getD t .j, bk := fun i => B.lookup i, al := fun i => (B.map (·.1)).contains i }
/-- What is handed back: values and blocks, their names by κ; rows ids are let go. -/
def OutP (C : Cx) (rs : List ResultVar) (l : List V) (B' : List (Nat × Bk)) (σ : St) : Prop :=
  ∃ (ids : List Nat) (κ : Nat → Nat), vRes C.P (σ.fz ids).bk (σ.fz ids).sl rs (fun vl => leL vl (rnL (fxr κ) l)) ∧ (∀ p ∈ B', (σ.fz ids).bk (fxr κ p.1) = some (rnB (fxr κ) p.2)) ∧ (∀ p ∈ B', ∀ q ∈ B', fxr κ p.1 = fxr κ q.1 → p.1 = q.1)
theorem lookup_in {B : List (Nat × Bk)} {i : Nat} {b : Bk} (h : B.lookup i = some b) : (i, b) ∈ B := by
  induction B with
  | nil => simp at h
  | cons p l ih =>
    obtain ⟨pi, pb⟩ := p
    rw [List.lookup_cons] at h
    cases e : i == pi with
    | true =>
      rw [e] at h
      simp only [Option.some.injEq] at h
      rw [beq_iff_eq.1 e, h]
      simp
    | false =>
      rw [e] at h
      exact List.mem_cons_of_mem _ (ih h)
theorem key_al {B : List (Nat × Bk)} {i : Nat} : (B.map (·.1)).contains i = true ↔ keyB B i := by
  rw [List.contains_iff_mem, List.mem_map]
  constructor
  · rintro ⟨⟨j, b⟩, h, rfl⟩; exact ⟨b, h⟩
  · rintro ⟨b, h⟩; exact ⟨_, h, rfl⟩
theorem named_all {F : Nat → Prop} {W : World} {G : Gm} {κ : Nat → Nat} : ∀ {rl : List V} {ys : List Value}, All2 (Rep F W G) (rnL κ rl) ys → All2 (Rep F W fun i => G (κ i)) rl ys
  | [], _, .nil => .nil
  | y :: l, _, .cons h t => .cons (h.named y rfl) (named_all t)
theorem spec_ofP {C : Cx} {f : Nat} {fn : Func} {c : Code} {l rl : List V} {rs : List ResultVar} {B B' : List (Nat × Bk)} (hx : C.P.follows .mixedOrders = true) (hS : Stab C.L) (hf : C.P.funcs[f]? = some fn) (hb : fn.body = some c) (hname : (fn.name == "runtime.NumGoroutine") = false) (hrs : fn.results = rs.toArray)
    (hchk0 : chkM fn.ntmps c = true) (hlen : l.length ≤ fn.ntmps) (hm : ∀ i, menL l i = true → keyB B i) (hmB : ∀ p ∈ B, ∀ k, p.2.men k = true → keyB B k) (n1 : (B.map (·.1)).Nodup) (n2 : (B'.map (·.1)).Nodup)
    (hmr : ∀ i, menL rl i = true → keyB B' i) (n4 : ∀ p ∈ B', ∀ k, p.2.men k = true → keyB B' k) (n5 : ∀ k, 1000000000 ≤ k → keyB B' k → keyB B k) (hlr : rl.length = rs.length) (hl4 : rs.length ≤ 4)
    (h : wpC C c ⟨OutP C rs rl B', fun _ _ => False, OutP C rs rl B'⟩ (iniP l B)) : SpecP C.P C.L f l B (pack rl) B' := by
  classical
  refine ⟨⟨fn, hf, by rw [hb]; rfl, hname⟩, ⟨n1, n2, fun i hi => ?_, n4, n5⟩, fun S t W Gi xs hL ht hxs hr hSW hBk hap => ?_⟩
  · refine hmr i ?_
    unfold pack at hi
    split at hi
    · simpa [menL] using hi
    · simpa [men] using hi
  · obtain ⟨hml, hchk⟩ : fn.ntmps ≤ 1000000000 ∧ chk fn.ntmps c = true := by unfold chkM at hchk0; simpa using hchk0
    let w0 : Bs := ⟨W, obB Gi B, t, ht, fun g ⟨p, hp, hg⟩ => ((hBk p hp).2 g hg).1, fun i => if 1000000000 ≤ i ∧ keyB B i then some (Gi i) else none⟩
    have hR : RelG w0 S fn.ntmps Gi S (iniP l B) { tmps := xs ++ Array.replicate (fn.ntmps - xs.size) undef, defers := [] } W := by
      refine ⟨BelX.refl _ _, by simp; omega, fun t => ?_, fun i b h => (hBk _ (lookup_in h)).1, fun i b g h hg => ?_, fun i i' b b' g hii h h' hg => hap _ (lookup_in h) _ (lookup_in h') hii g hg, fun g hg => ⟨hSW g hg, .inr hg⟩, rfl, fun t i h => ?_, fun i b h => ⟨key_al.2 ⟨b, lookup_in h⟩, fun k hk => key_al.2 (hmB _ (lookup_in h) k hk)⟩, fun i A h => ?_, hml⟩
      · simp only [iniP]
        by_cases ht : t < l.length
        · have e1 : l[t]? = some (l.getD t .j) := by rw [List.getD_eq_getElem?_getD, List.getElem?_eq_getElem ht]; rfl
          refine hr t _ _ e1 ?_
          rw [Array.getD_eq_getD_getElem?, Array.getElem?_append_left (by omega), Array.getElem?_eq_getElem (by omega)]
          rfl
        · rw [List.getD_eq_getElem?_getD, List.getElem?_eq_none (by omega)]
          exact .j _ _
      · obtain ⟨k1, k2, k3⟩ := (hBk _ (lookup_in h)).2 g hg
        exact ⟨.inr ⟨_, lookup_in h, hg⟩, k2, k3⟩
      · simp only [iniP] at h ⊢
        by_cases ht : t < l.length
        · have e1 : l[t]? = some (l.getD t .j) := by rw [List.getD_eq_getElem?_getD, List.getElem?_eq_getElem ht]; rfl
          exact key_al.2 (hm i (menL_of e1 h))
        · rw [List.getD_eq_getElem?_getD, List.getElem?_eq_none (by omega)] at h
          cases h
      · have h : (if 1000000000 ≤ i ∧ keyB B i then some (Gi i) else none) = some A := h
        split at h
        · rename_i hc
          exact ⟨hc.1, Option.some.inj h⟩
        · cases h
    refine calls_of_wp hf hb (Code.wp_mono (fun e a' W' hq => ?_) (wpC_ok hx hS (w0 := w0) hL c _ _ _ _ hchk h ⟨Gi, S, hR⟩))
    have fin : (∃ σ, Rel w0 S fn.ntmps σ a' W' ∧ OutP C rs rl B' σ) → a'.defers = [] ∧ ∃ v, (results fn a'.tmps).run C.P W' = .ok v W' ∧ ∃ v1 F' G', Ending.returned v = .returned v1 ∧ Frm Gi B W W' ∧ (∀ g, F' g → g < W'.heap.size ∧ (W.heap.size ≤ g ∨ obB Gi B g ∨ S g)) ∧ Rep F' W' G' (pack rl) v1 ∧
        (∀ p ∈ B', BkRep F' W' G' p.1 p.2 ∧ ∀ g, p.2.ob G' p.1 g → (W.heap.size ≤ g ∨ obB Gi B g) ∧ g < W'.heap.size ∧ ¬ F' g) ∧ apB G' B' ∧ ∀ k, 1000000000 ≤ k → keyB B k → G' k = Gi k := by
      rintro ⟨σ, ⟨G, F0, hG0⟩, ids, κ, ho, hbs, hinj⟩
      have hG := hG0.fz ids
      generalize hF : Fz G F0 σ ids = F at hG
      obtain ⟨l0, ys, ho, hrun, hrep⟩ := vRes_ok hG ho
      have hob : ∀ p ∈ B', ∀ g, p.2.ob (fun i => G (fxr κ i)) p.1 g → (rnB (fxr κ) p.2).ob G (fxr κ p.1) g := fun p hp g hg => (ob_rnB (G2 := G) (G' := fun i => G (fxr κ i)) rfl g).2 hg
      refine ⟨hG.defers, _, run_res hrs hl4 hrun, _, F, fun i => G (fxr κ i), rfl, ⟨hG.below.os, hG.below.tape, hG.below.output, hG.below.size, fun g hg hn => hG.below.block g fun hm => ?_⟩, fun g hg => ?_, ?_, fun p hp => ⟨?_, fun g hg => ?_⟩, fun p hp q hq hne g hg hg' => ?_, fun k hk hkB => ?_⟩
      · rcases hm with hm | hm
        · exact absurd (show W.heap.size ≤ g from hm) (by omega)
        · exact hn hm
      · obtain ⟨k1, k2⟩ := hG.fin g hg
        refine ⟨k1, ?_⟩
        rcases k2 with (k2 | k2) | k2
        · exact .inl k2
        · exact .inr (.inl k2)
        · exact .inr (.inr k2)
      · have key : All2 (Rep F W' fun i => G (fxr κ i)) rl ys := named_all (leL_all ho hrep)
        match rl, ys, key with
        | [], [], _ => exact .tp _ _ _ rfl fun q y v h => by simp at h
        | [y], [x], .cons k _ => exact k
        | y :: y' :: rl, x :: x' :: ys, key => exact .tp _ _ _ (by simpa using key.length_eq.symm) fun q z v e1 e2 => key.get q z v e1 (by simpa using e2)
      · have hb := hG.blk _ _ (hbs p hp)
        obtain ⟨pi, pb⟩ := p
        cases pb with
        | cells T l =>
          obtain ⟨c, q1, q2, q3⟩ := hb
          exact ⟨c, q1, by rw [q2, rnL_len], fun q y v e1 e2 => (q3 q (rnV (fxr κ) y) v (by rw [rnL_get, e1]; rfl) e2).named y rfl⟩
        | row T z α d l e c => exact hb
        | itr l p => exact hb
      · obtain ⟨k1, k2, k3⟩ := hG.own _ _ g (hbs p hp) (hob p hp g hg)
        exact ⟨k1, k2, k3⟩
      · exact hG.apart (fxr κ p.1) (fxr κ q.1) _ _ g (fun e => hne (hinj p hp q hq e)) (hbs p hp) (hbs q hq) (hob p hp g hg) (hob q hq g hg')
      · have e : fxr κ k = k := by unfold fxr; rw [decide_eq_true hk]; rfl
        show G (fxr κ k) = _
        rw [e]
        exact (hG.fix k (Gi k) (if_pos ⟨hk, hkB⟩)).2
    cases e with
    | normal => exact fin hq
    | ret => exact fin hq
    | exit i => obtain ⟨_, _, h⟩ := hq; exact h.elim
    | _ => exact hq.elim
end Go.Proofs.YtjbnmeofjiokeaaGreatDoor.Ev
namespace Go.Proofs.YtjbnmeofjiokeaaGreatDoor.Ev
open Go.RowKit
open Go.Proofs.YtjbnmeofjiokeaaGreatDoor.Mem
set_option linter.unusedVariables false
set_option linter.unusedSimpArgs false
def keyb (B : List (Nat × Bk)) (i : Nat) : Bool := inL i (B.map (·.1))
theorem keyb_iff {B : List (Nat × Bk)} {i : Nat} : keyb B i = true ↔ keyB B i := by unfold keyb; rw [← inL_eq, key_al]
def ndb : List Nat → Bool
  | [] => true
  | x :: l => !inL x l && ndb l
theorem ndb_of : ∀ {l : List Nat}, ndb l = true → l.Nodup
  | [], _ => List.nodup_nil
  | x :: l, h => by
    simp only [ndb, Bool.and_eq_true, Bool.not_eq_true'] at h
    refine List.nodup_cons.2 ⟨fun hm => ?_, ndb_of h.2⟩
    rw [← inL_eq, List.contains_iff_mem.2 hm] at h
    exact absurd h.1 (by simp)
theorem spec_ofP' {C : Cx} {f : Nat} {fn : Func} {c : Code} {l rl : List V} {rs : List ResultVar} {B B' : List (Nat × Bk)} (hx : C.P.follows .mixedOrders = true) (hS : Stab C.L) (hf : C.P.funcs[f]? = some fn) (hb : fn.body = some c) (hname : (fn.name == "runtime.NumGoroutine") = false) (hrs : fn.results = rs.toArray)
    (hchk0 : chkM fn.ntmps c = true) (hlen : l.length ≤ fn.ntmps) (hm : inML (keyb B) l = true) (hmB : (B.all fun p => bkM (keyb B) p.2) = true) (n1 : ndb (B.map (·.1)) = true) (n2 : ndb (B'.map (·.1)) = true)
    (hmr : inML (keyb B') rl = true) (n4 : (B'.all fun p => bkM (keyb B') p.2) = true) (n5 : (B'.all fun p => !decide (1000000000 ≤ p.1) || keyb B p.1) = true) (hlr : rl.length = rs.length) (hl4 : rs.length ≤ 4)
    (h : wpC C c ⟨OutP C rs rl B', fun _ _ => False, OutP C rs rl B'⟩ (iniP l B)) : SpecP C.P C.L f l B (pack rl) B' := by
  refine spec_ofP hx hS hf hb hname hrs hchk0 hlen (fun i hi => keyb_iff.1 (inML_men l i hm hi)) (fun p hp k hk => keyb_iff.1 (bkM_men (List.all_eq_true.1 hmB p hp) k hk)) (ndb_of n1) (ndb_of n2)
    (fun i hi => keyb_iff.1 (inML_men rl i hmr hi)) (fun p hp k hk => keyb_iff.1 (bkM_men (List.all_eq_true.1 n4 p hp) k hk)) (fun k hk ⟨b, hb'⟩ => ?_) hlr hl4 h
  have := List.all_eq_true.1 n5 _ hb'
  simp only [Bool.or_eq_true, Bool.not_eq_true', decide_eq_false_iff_not] at this
  exact keyb_iff.1 (this.resolve_left fun h => h hk)
section
variable {P : Program} {L : World → Prop} {f d : Nat} {av bs : List V} {r : V} {B B' : List (Nat × Bk)} {σ : St} {k : St → Prop} {xs : List Operand}
/-- Blocks are given. -/
theorem cp (ρ ρ' : Nat → Nat) (h : SpecP P L f bs B r B') (hle : leL av (rnL ρ bs)) (h1 : allP (fun p => σ.bk (ρ p.1) = some (rnB ρ p.2)) B) (h2 : allP (fun p => allP (fun q => ρ p.1 = ρ q.1 → p.1 = q.1) B) B)
    (h3 : allP (fun p => bif decide (1000000000 ≤ p.1) then ρ' p.1 = ρ p.1 else σ.al (ρ' p.1) = false ∧ ρ' p.1 < 1000000000) B') (h4 : allP (fun p => allP (fun q => ρ' p.1 = ρ' q.1 → p.1 = q.1) B') B') (hk : k (σ.giv d r B B' ρ ρ')) :
    xCall P L f d av σ k ∨ xCallO P L f d av σ k ∨ xCallF P L f d xs σ k ∨ xCallP P L f d av σ k := by
  refine .inr <| .inr <| .inr ⟨bs, B, r, B', ρ, ρ', hle, allP_mem h1, fun p hp q hq => allP_mem (allP_mem h2 p hp) q hq, h, fun p hp => ?_, fun p hp q hq => allP_mem (allP_mem h4 p hp) q hq, hk⟩
  have := allP_mem h3 p hp
  by_cases e : 1000000000 ≤ p.1
  · rw [decide_eq_true e] at this
    rw [if_pos e]
    exact this
  · rw [decide_eq_false e] at this
    rw [if_neg e]
    exact this
/-- The end of a function that was given blocks. -/
theorem outP {C : Cx} {rs : List ResultVar} {l : List V} (ids : List Nat) (κ : Nat → Nat) (h : vRes C.P (σ.fz ids).bk (σ.fz ids).sl rs (fun vl => leL vl (rnL (fxr κ) l))) (h1 : allP (fun p => (σ.fz ids).bk (fxr κ p.1) = some (rnB (fxr κ) p.2)) B') (h2 : allP (fun p => allP (fun q => fxr κ p.1 = fxr κ q.1 → p.1 = q.1) B') B') : OutP C rs l B' σ :=
  ⟨ids, κ, h, allP_mem h1, fun p hp q hq => allP_mem (allP_mem h2 p hp) q hq⟩
end
theorem epw : (∀ (σ : St) d r B B' ρ ρ' t, (σ.giv d r B B' ρ ρ').sl t = if t = d then rnV ρ' r else σ.sl t) ∧ (∀ (σ : St) d r B B' ρ ρ' i, (σ.giv d r B B' ρ ρ').bk i = match lk i (B'.map fun p => (ρ' p.1, rnB ρ' p.2)) with
      | some b => some b
      | none => bif inL i (B.map fun p => ρ p.1) then none else σ.bk i) ∧ (∀ (σ : St) d r B B' ρ ρ' i, (σ.giv d r B B' ρ ρ').al i = (inL i (B'.map fun p => ρ' p.1) || σ.al i)) ∧
    (∀ l B t, (iniP l B).sl t = l.getD t .j) ∧ (∀ l B i, (iniP l B).bk i = lk i B) ∧ (∀ l B i, (iniP l B).al i = inL i (B.map (·.1))) :=
  ⟨fun _ _ _ _ _ _ _ _ => rfl, fun _ _ _ _ _ _ _ _ => by simp only [St.giv, lk_eq, inL_eq] <;> rfl, fun _ _ _ _ _ _ _ _ => by simp only [St.giv, inL_eq], fun _ _ _ => rfl, fun _ _ _ => by simp only [iniP, lk_eq], fun _ _ _ => by simp only [iniP, inL_eq]⟩
end Go.Proofs.YtjbnmeofjiokeaaGreatDoor.Ev
namespace Go.Proofs.YtjbnmeofjiokeaaGreatDoor.Ev
open Go.RowKit
open Go.Proofs.YtjbnmeofjiokeaaGreatDoor.Mem
set_option linter.unusedVariables false
set_option linter.unusedSimpArgs false
theorem edr : (∀ (C : Cx) (σ : St) (k : St → Prop) (d : Nat) (x : Operand) (ty : TypeId) (ps : String) (af : Array Edge) (g : Option (Nat × Bool)), exXD C ⟨some d, .nilCheck x, ty, ps, af, g⟩ k σ = exOp C ⟨some d, .nilCheck x, ty, ps, af, g⟩ k σ) ∧
    (∀ (C : Cx) b f d av (σ : St) k, callB C b true f d av σ k = (xCall C.P C.L f d av σ k ∨ xCallO C.P C.L f d av σ k ∨ xCallP C.P C.L f d av σ k)) ∧ (∀ (C : Cx) f d av (σ : St) k, callB C false false f d av σ k = xCall C.P C.L f d av σ k) ∧ (∀ (C : Cx) f d av (σ : St) k, callB C true false f d av σ k = (xCall C.P C.L f d av σ k ∨ xCallO C.P C.L f d av σ k ∨ xCallQ C.P C.L f d av σ k)) ∧
    (∀ (C : Cx) (σ : St) (k : St → Prop) o, drR C true o k σ = (drawOk2 C.cut o = true ∧ wpD C o.toList o.toList k σ)) ∧
    (∀ (C : Cx) (σ : St) (k : St → Prop) (ops : List Oper), wpD C ops [] k σ = k σ) ∧
    (∀ (C : Cx) (σ : St) (k : St → Prop) (ops : List Oper) o l, wpD C ops (o :: l) k σ = exYD C ops o (wpD C ops l k) σ) ∧
    (∀ (C : Cx) (σ : St) (k : St → Prop) (ops : List Oper) (ty : TypeId) (ps : String) (af : Array Edge) d op, exYD C ops ⟨d, op, ty, ps, af, none⟩ k σ = exXD C ⟨d, op, ty, ps, af, none⟩ k σ) ∧
    (∀ (C : Cx) (σ : St) (k : St → Prop) (ops : List Oper) (ty : TypeId) (ps : String) (af : Array Edge) d op g, exYD C ops ⟨d, op, ty, ps, af, some g⟩ k σ = exG C ops ⟨d, op, ty, ps, af, some g⟩ k σ) :=
  ⟨by intros; rfl, (by intro C b; cases b <;> intros <;> rfl), by intros; rfl, by intros; rfl, by intros; rfl, by intros; rfl, by intros; rfl, by intros; rfl, by intros; rfl⟩
theorem eod : (∀ (C : Cx) (σ : St) (k : St → Prop) (d : Nat) (x : Operand) (ty : TypeId) (ps : String) (af : Array Edge) (g : Option (Nat × Bool)), exXD C ⟨some d, .move x, ty, ps, af, g⟩ k σ = exOp C ⟨some d, .move x, ty, ps, af, g⟩ k σ) ∧
    (∀ (C : Cx) (σ : St) (k : St → Prop) (d : Nat) (x : Operand) (ty : TypeId) (ps : String) (af : Array Edge) (g : Option (Nat × Bool)), exXD C ⟨some d, .assign x, ty, ps, af, g⟩ k σ = exOp C ⟨some d, .assign x, ty, ps, af, g⟩ k σ) ∧
    (∀ (C : Cx) (σ : St) (k : St → Prop) (d : Nat) (x : Operand) (y : Operand) (ty : TypeId) (ps : String) (af : Array Edge) (g : Option (Nat × Bool)) c, exXD C ⟨some d, .pick c x y, ty, ps, af, g⟩ k σ = exOp C ⟨some d, .pick c x y, ty, ps, af, g⟩ k σ) ∧
    (∀ (C : Cx) (σ : St) (k : St → Prop) (d : Nat) (x : Operand) (y : Operand) (ty : TypeId) (T : TypeId) (T' : TypeId) (ps : String) (af : Array Edge) (g : Option (Nat × Bool)) op, exXD C ⟨some d, .binOp op T x y T', ty, ps, af, g⟩ k σ = exOp C ⟨some d, .binOp op T x y T', ty, ps, af, g⟩ k σ) ∧
    (∀ (C : Cx) (σ : St) (k : St → Prop) (d : Nat) (x : Operand) (ty : TypeId) (T : TypeId) (ps : String) (af : Array Edge) (g : Option (Nat × Bool)) op, exXD C ⟨some d, .unOp op T x, ty, ps, af, g⟩ k σ = exOp C ⟨some d, .unOp op T x, ty, ps, af, g⟩ k σ) ∧
    (∀ (C : Cx) (σ : St) (k : St → Prop) (d : Nat) (x : Operand) (ty : TypeId) (T : TypeId) (T' : TypeId) (ps : String) (af : Array Edge) (g : Option (Nat × Bool)), exXD C ⟨some d, .convert T T' x, ty, ps, af, g⟩ k σ = exOp C ⟨some d, .convert T T' x, ty, ps, af, g⟩ k σ) ∧
    (∀ (C : Cx) (σ : St) (k : St → Prop) (d : Nat) (x : Operand) (ty : TypeId) (ps : String) (af : Array Edge) (g : Option (Nat × Bool)) i, exXD C ⟨some d, .extract x i, ty, ps, af, g⟩ k σ = exOp C ⟨some d, .extract x i, ty, ps, af, g⟩ k σ) ∧
    (∀ (C : Cx) (σ : St) (k : St → Prop) (d : Nat) (x : Operand) (ty : TypeId) (T : TypeId) (ps : String) (af : Array Edge) (g : Option (Nat × Bool)) i, exXD C ⟨some d, .field T x i, ty, ps, af, g⟩ k σ = exOp C ⟨some d, .field T x i, ty, ps, af, g⟩ k σ) ∧
    (∀ (C : Cx) (σ : St) (k : St → Prop) (d : Nat) (x : Operand) (y : Operand) (ty : TypeId) (T : TypeId) (ps : String) (af : Array Edge) (g : Option (Nat × Bool)), exXD C ⟨some d, .index T x y, ty, ps, af, g⟩ k σ = exOp C ⟨some d, .index T x y, ty, ps, af, g⟩ k σ) ∧
    (∀ (C : Cx) (σ : St) (k : St → Prop) (d : Nat) (x : Operand) (ty : TypeId) (T : TypeId) (ps : String) (af : Array Edge) (g : Option (Nat × Bool)) lo hi, exXD C ⟨some d, .slice T x lo hi none, ty, ps, af, g⟩ k σ = exOp C ⟨some d, .slice T x lo hi none, ty, ps, af, g⟩ k σ) ∧
    (∀ (C : Cx) (σ : St) (k : St → Prop) (d : Nat) (x : Operand) (y : Operand) (ty : TypeId) (T : TypeId) (ps : String) (af : Array Edge) (g : Option (Nat × Bool)), exXD C ⟨some d, .indexAddr T x y, ty, ps, af, g⟩ k σ = exOp C ⟨some d, .indexAddr T x y, ty, ps, af, g⟩ k σ) ∧
    (∀ (C : Cx) (σ : St) (k : St → Prop) (d : Nat) (x : Operand) (ty : TypeId) (T : TypeId) (ps : String) (af : Array Edge) (g : Option (Nat × Bool)) i, exXD C ⟨some d, .fieldAddr T x i, ty, ps, af, g⟩ k σ = exOp C ⟨some d, .fieldAddr T x i, ty, ps, af, g⟩ k σ) ∧
    (∀ (C : Cx) (σ : St) (k : St → Prop) (d : Nat) (x : Operand) (ty : TypeId) (T : TypeId) (ps : String) (af : Array Edge) (g : Option (Nat × Bool)), exXD C ⟨some d, .load T x, ty, ps, af, g⟩ k σ = exOp C ⟨some d, .load T x, ty, ps, af, g⟩ k σ) ∧
    (∀ (C : Cx) (σ : St) (k : St → Prop) (d : Nat) (ty : TypeId) (T : TypeId) (ps : String) (af : Array Edge) (g : Option (Nat × Bool)) p, exXD C ⟨some d, .build T p, ty, ps, af, g⟩ k σ = exOp C ⟨some d, .build T p, ty, ps, af, g⟩ k σ) ∧
    (∀ (C : Cx) (σ : St) (k : St → Prop) (d : Nat) (ty : TypeId) (T : TypeId) (ps : String) (af : Array Edge) (g : Option (Nat × Bool)), exXD C ⟨some d, .alloc T, ty, ps, af, g⟩ k σ = exOp C ⟨some d, .alloc T, ty, ps, af, g⟩ k σ) ∧
    (∀ (C : Cx) (σ : St) (k : St → Prop) (d : Nat) (x : Operand) (ty : TypeId) (T : TypeId) (ps : String) (af : Array Edge) (g : Option (Nat × Bool)), exXD C ⟨some d, .box T x, ty, ps, af, g⟩ k σ = exOp C ⟨some d, .box T x, ty, ps, af, g⟩ k σ) ∧
    (∀ (C : Cx) (σ : St) (k : St → Prop) (x : Operand) (y : Operand) (ty : TypeId) (T : TypeId) (ps : String) (af : Array Edge) (g : Option (Nat × Bool)), exXD C ⟨none, .store T x y, ty, ps, af, g⟩ k σ = exOp C ⟨none, .store T x y, ty, ps, af, g⟩ k σ) ∧
    (∀ (C : Cx) (σ : St) (k : St → Prop) (d : Nat) (x : Operand) (y : Operand) (ty : TypeId) (T : TypeId) (ps : String) (af : Array Edge) (g : Option (Nat × Bool)), exXD C ⟨some d, .makeSlice T x y, ty, ps, af, g⟩ k σ = exOp C ⟨some d, .makeSlice T x y, ty, ps, af, g⟩ k σ) ∧
    (∀ (C : Cx) (σ : St) (k : St → Prop) (d : Nat) (ty : TypeId) (T : TypeId) (ps : String) (af : Array Edge) (g : Option (Nat × Bool)) n p, exXD C ⟨some d, .buildSlice T n p, ty, ps, af, g⟩ k σ = exOp C ⟨some d, .buildSlice T n p, ty, ps, af, g⟩ k σ) ∧
    (∀ (C : Cx) (σ : St) (k : St → Prop) (d : Nat) (ty : TypeId) (ps : String) (af : Array Edge) (g : Option (Nat × Bool)) f xs ts, exXD C ⟨some d, .call ⟨.value (.func f), xs, ts⟩, ty, ps, af, g⟩ k σ = callB C (inC (2000000 + f) C.cut) (inC (3000000 + f) C.cut) f d (xs.toList.map σ.rd) σ k) ∧
    (∀ (C : Cx) (σ : St) (k : St → Prop) (d : Nat) (x : Operand) (ty : TypeId) (T : TypeId) (ps : String) (af : Array Edge) (g : Option (Nat × Bool)), exXD C ⟨some d, .call ⟨.builtin .len, ⟨[x]⟩, ⟨[T]⟩⟩, ty, ps, af, g⟩ k σ = exOp C ⟨some d, .call ⟨.builtin .len, ⟨[x]⟩, ⟨[T]⟩⟩, ty, ps, af, g⟩ k σ) ∧
    (∀ (C : Cx) (σ : St) (k : St → Prop) (d : Nat) (x : Operand) (y : Operand) (ty : TypeId) (T : TypeId) (T' : TypeId) (ps : String) (af : Array Edge) (g : Option (Nat × Bool)), exXD C ⟨some d, .call ⟨.builtin .append, ⟨[x, y]⟩, ⟨[T, T']⟩⟩, ty, ps, af, g⟩ k σ = exOp C ⟨some d, .call ⟨.builtin .append, ⟨[x, y]⟩, ⟨[T, T']⟩⟩, ty, ps, af, g⟩ k σ) :=
  ⟨by intros; rfl, by intros; rfl, by intros; rfl, by intros; rfl, by intros; rfl, by intros; rfl, by intros; rfl, by intros; rfl, by intros; rfl, by intros; rfl, by intros; rfl, by intros; rfl, by intros; rfl, by intros; rfl, by intros; rfl, by intros; rfl, by intros; rfl, by intros; rfl, by intros; rfl, by intros; rfl, by intros; rfl, by intros; rfl⟩
section
variable {P : Program} {L : World → Prop} {f d : Nat} {av bs : List V} {r : V} {B B' : List (Nat × Bk)} {σ : St} {k : St → Prop}
/-- .. rows are handed over. -/
theorem dqO {rb : List Bk} (ids : List Nat) (h : SpecO P L f bs r rb) (hle : leL av bs) (h1 : ids.length = rb.length) (h2 : ndb ids = true) (h3 : allP (fun i => σ.al i = false ∧ i < 1000000000) ids) (hk : k (σ.adds d (rnV (fun k => ids.getD k 0) r) ids rb)) (hm : ∀ i, menL av i = false := by intro i; rfl) : xCall P L f d av σ k ∨ xCallO P L f d av σ k ∨ xCallQ P L f d av σ k :=
  .inr (.inl ⟨bs, r, rb, ids, .inl ⟨hm, hle⟩, h, ⟨h1, ndb_of h2, allP_mem h3⟩, hk⟩)
/-- .. blocks are given, some of which stay. -/
theorem dqF (ρ ρ' : Nat → Nat) (h : SpecP P L f bs B r B') (hle : leL av (rnL ρ bs)) (h1 : allP (fun p => σ.bk (ρ p.1) = some (rnB ρ p.2)) B) (h2 : allP (fun p => allP (fun q => ρ p.1 = ρ q.1 → p.1 = q.1) B) B)
    (h3 : allP (fun p => bif decide (1000000000 ≤ p.1) then ρ' p.1 = ρ p.1 else σ.al (ρ' p.1) = false ∧ ρ' p.1 < 1000000000) B') (h4 : allP (fun p => allP (fun q => ρ' p.1 = ρ' q.1 → p.1 = q.1) B') B') (hk : k (σ.giv d r B B' ρ ρ')) :
    xCall P L f d av σ k ∨ xCallO P L f d av σ k ∨ xCallP P L f d av σ k := by
  refine .inr <| .inr ⟨bs, B, r, B', ρ, ρ', hle, allP_mem h1, fun p hp q hq => allP_mem (allP_mem h2 p hp) q hq, h, fun p hp => ?_, fun p hp q hq => allP_mem (allP_mem h4 p hp) q hq, hk⟩
  have := allP_mem h3 p hp
  by_cases e : 1000000000 ≤ p.1
  · rw [decide_eq_true e] at this
    rw [if_pos e]
    exact this
  · rw [decide_eq_false e] at this
    rw [if_neg e]
    exact this
/-- .. blocks are given. -/
theorem dqP (ρ ρ' : Nat → Nat) (h : SpecP P L f bs B r B') (hle : leL av (rnL ρ bs)) (h1 : allP (fun p => σ.bk (ρ p.1) = some (rnB ρ p.2)) B) (h2 : allP (fun p => allP (fun q => ρ p.1 = ρ q.1 → p.1 = q.1) B) B)
    (h3 : allP (fun p => p.1 < 1000000000 ∧ σ.al (ρ' p.1) = false ∧ ρ' p.1 < 1000000000) B') (h4 : allP (fun p => allP (fun q => ρ' p.1 = ρ' q.1 → p.1 = q.1) B') B') (hk : k (σ.giv d r B B' ρ ρ')) :
    xCall P L f d av σ k ∨ xCallO P L f d av σ k ∨ xCallQ P L f d av σ k :=
  .inr (.inr ⟨bs, B, r, B', ρ, ρ', hle, allP_mem h1, fun p hp q hq => allP_mem (allP_mem h2 p hp) q hq, h, allP_mem h3, fun p hp q hq => allP_mem (allP_mem h4 p hp) q hq, hk⟩)
end
end Go.Proofs.YtjbnmeofjiokeaaGreatDoor.Ev
namespace Go.Proofs.YtjbnmeofjiokeaaGreatDoor.Ev
open Go.RowKit
open Go.Proofs.YtjbnmeofjiokeaaGreatDoor.Mem
set_option linter.unusedVariables false
set_option linter.unusedSimpArgs false
set_option maxRecDepth 100000
theorem gb {p q : Prop} (hq : q) (h : p ↔ q := by simp (config := { maxSteps := 10000000 }) (disch := omega) only [false_and, and_false, epw, eokO, cSo, rDo, eSh, eBsd, evw, fxM, cSd, wrc, eRd, eEd, eMd, eBd, eEE, rDs, eok, true_implies, eo5, ev5, Nat.mul_one, Nat.zero_mul, Nat.one_mul, Nat.add_zero, lenl, bne_self_eq_false, Int.reduceLT, Int.reduceLE, Int.reduceEq, Int.reduceNe, Int.reduceAdd, Int.reduceSub, Int.reduceMul, Int.reduceNeg, ebr, wr64, sdl, ler, true_or, or_true, rng, List.length_map, List.length_range, List.length_append, List.length_replicate, List.length_set, List.length_take, List.length_drop, List.not_mem_nil, false_implies, implies_true, ↓ec, ↓eg, ↓eo, ↓eox, ↓es, ↓et1, em, emR, efz, enl, ebx, ebt, et, ev, List.drop_nil, Option.some.injEq, Option.isSome_none, Int.reduceToNat, List.replicate_zero, Bool.or_self, ez, ef, ebd, et2, Int.toNat_natCast, Option.map_none, Option.map_some, List.all_cons, List.all_nil, Bool.and_self, List.cons_append, List.nil_append, List.append_nil, List.append_assoc, ep, ew, Option.isSome_some, id_eq, Nat.reduceLT, Nat.reduceSub, Bool.false_or, Bool.true_or, Bool.or_true, Bool.true_and, Bool.and_true, reduceCtorEq, Nat.reduceBEq, Bool.true_eq_false, Bool.false_eq_true, List.map_cons, List.map_nil, List.take_succ_cons, List.take_zero, List.drop_succ_cons, List.drop_zero, List.length_cons, List.length_nil, Nat.zero_add, Nat.reduceAdd, Nat.reduceLeDiff, Bool.not_true, Bool.not_false, List.getElem?_cons_succ, List.getElem?_cons_zero, Option.bind_some, ne_eq, not_false_eq_true, ↓eh1, eh, en, List.getD_cons_zero, List.getD_cons_succ, Nat.reduceEqDiff, ↓reduceIte, cond_true, cond_false, Bool.or_false, decide_true, decide_false, true_and, and_true, decide_eq_true_eq, decide_eq_false_iff_not, Bool.not_eq_true', Bool.not_eq_false', not_true_eq_false, Decidable.not_not]; exact Iff.rfl) : p := h.2 hq
theorem cloneR_ok (l : List Rul) (hl : l.length ≤ 3518437208883) : Spec Tryz.prog LL 62 [.sl 3 Rul dR l eRul] (.sl 3 Rul dR l eRul) := by
  refine spec_of (C := ⟨Tryz.prog, LL, EE, []⟩) (rl := [.sl 3 Rul dR l eRul]) (rs := [.tmp 2]) CCx LLs Tryz.func62 rfl (by kernel_rfl) rfl (by kernel_rfl) (Nat.le_of_ble_eq_true rfl) (fun i => rfl) (fun i => by first | rfl | exact (Bool.or_false _).trans (eSd_men _ _)) rfl (by decide) ?_
  refine gb ?_
  refine ⟨?_, fun h0 => ?_⟩
  · try refine gb ?_
    refine .inl (lto ?_)
    try refine gb ?_
    rw [show List.map (fun v : Rul => (⟨v.name, v.op, v.ver⟩ : Rul)) l = l from List.map_id _]
    exact le_refl _
  · subst h0
    try refine gb ?_
    trivial
theorem cloneE_ok (l : List Ent) (hl : l.length ≤ 2199023255552) : Spec Tryz.prog LL 63 [.sl 5 Ent dE l eEnt] (.sl 5 Ent dE l eEnt) := by
  refine spec_of (C := ⟨Tryz.prog, LL, EE, []⟩) (rl := [.sl 5 Ent dE l eEnt]) (rs := [.tmp 2]) CCx LLs Tryz.func63 rfl (by kernel_rfl) rfl (by kernel_rfl) (Nat.le_of_ble_eq_true rfl) (fun i => rfl) (fun i => by first | rfl | exact (Bool.or_false _).trans (eSd_men _ _)) rfl (by decide) ?_
  refine gb ?_
  refine ⟨?_, fun h0 => ?_⟩
  · try refine gb ?_
    refine .inl (lto ?_)
    try refine gb ?_
    rw [show List.map (fun v : Ent => (⟨v.kind, v.mode, v.sum, v.path, v.target⟩ : Ent)) l = l from List.map_id _]
    exact le_refl _
  · subst h0
    try refine gb ?_
    trivial
/-- What a manifest's lists have room for. -/
structure Man.Big (m : Man) : Prop where
  n : m.needs.length ≤ 3518437208883
  c : m.clashes.length ≤ 3518437208883
  e : m.ents.length ≤ 2199023255552
theorem copied_ok (m : Man) (hb : m.Big) : Spec Tryz.prog LL 37 [eMan m] (eMan m) := by
  refine spec_of (C := ⟨Tryz.prog, LL, EE, []⟩) (rl := [eMan m]) (rs := [.cell 2 30]) CCx LLs Tryz.func37 rfl (by kernel_rfl) rfl (by kernel_rfl) (Nat.le_of_ble_eq_true rfl) (fun i => rfl) (fun i => by first | rfl | exact (Bool.or_false _).trans (eSd_men _ _)) rfl (by decide) ?_
  refine gb ?_
  refine cl (cloneR_ok m.needs hb.n) ?_
  refine gb ?_
  refine cl (cloneR_ok m.clashes hb.c) ?_
  refine gb ?_
  refine cl (cloneE_ok m.ents hb.e) ?_
  refine gb ?_
  trivial
theorem has_ok (m : Man) (w : List UInt8) (hl : m.ents.length ≤ 100000000000000) : Spec Tryz.prog LL 45 [eMan m, .s w] (.tp [eEnt (hasM m.ents w).1, .b (hasM m.ents w).2]) := by
  refine spec_of (C := ⟨Tryz.prog, LL, EE, []⟩) (rl := [eEnt (hasM m.ents w).1, .b (hasM m.ents w).2]) (rs := [.cell 4 53, .tmp 5]) CCx LLs Tryz.func45 rfl (by kernel_rfl) rfl (by kernel_rfl) (Nat.le_of_ble_eq_true rfl) (fun i => rfl) (fun i => by first | rfl | exact (Bool.or_false _).trans (eSd_men _ _)) rfl (by decide) ?_
  refine gb ?_
  refine lp_hd [1, 4, 9, 10] [4] (fun i : Nat => [(11, .n .i64 (i : Int))]) (fun i : Nat => []) (fun i : Nat => i ≤ m.ents.length ∧ hasM m.ents w = hasM (m.ents.drop i) w) (fun i : Nat => m.ents.length - i) (0) id (id) ⟨Nat.zero_le _, rfl⟩ (fits_of (gb ?_) (gb ?_) (gb ?_) (gb ?_) (gb ?_)) ?_
  · first | exact True.intro | exact ⟨rfl, rfl⟩ | exact ⟨rfl, rfl, rfl⟩ | rfl | exact rowc (List.map_id _) | trivial
  · first | exact True.intro | exact ⟨rfl, rfl⟩ | exact ⟨rfl, rfl, rfl⟩ | rfl | exact rowc (List.map_id _) | trivial
  · first | exact True.intro | exact ⟨rfl, rfl⟩ | exact ⟨rfl, rfl, rfl⟩ | rfl | exact rowc (List.map_id _) | trivial
  · first | exact True.intro | exact ⟨rfl, rfl⟩ | exact ⟨rfl, rfl, rfl⟩ | rfl | exact rowc (List.map_id _) | trivial
  · first | exact True.intro | exact ⟨rfl, rfl⟩ | exact ⟨rfl, rfl, rfl⟩ | rfl | exact rowc (List.map_id _) | trivial
  rintro i ⟨hi, hr⟩
  try refine gb ?_
  refine br (fun e => ?_) (fun e => ?_)
  · have hd := drop_at m.ents i dE (by omega)
    rw [hd, hasM] at hr
    clear hd
    try refine gb ?_
    generalize m.ents.getD i dE = x at hr
    refine br (fun c => ?_) (fun c => ?_)
    · rw [if_pos c] at hr
      try refine gb ?_
      rw [hr]
      exact ⟨le_refl _, rfl⟩
    · rw [if_neg c] at hr
      try refine gb ?_
      refine ⟨i + 1, ⟨by omega, hr⟩, (by omega), fits_of (gb ?_) (gb ?_) (gb ?_) (gb ?_) (gb ?_)⟩
      · first | exact True.intro | exact ⟨rfl, rfl⟩ | exact ⟨rfl, rfl, rfl⟩ | rfl | exact rowc (List.map_id _) | trivial
      · first | exact True.intro | exact ⟨rfl, rfl⟩ | exact ⟨rfl, rfl, rfl⟩ | rfl | exact rowc (List.map_id _) | trivial
      · first | exact True.intro | exact ⟨rfl, rfl⟩ | exact ⟨rfl, rfl, rfl⟩ | rfl | exact rowc (List.map_id _) | trivial
      · first | exact True.intro | exact ⟨rfl, rfl⟩ | exact ⟨rfl, rfl, rfl⟩ | rfl | exact rowc (List.map_id _) | trivial
      · first | exact True.intro | exact ⟨rfl, rfl⟩ | exact ⟨rfl, rfl, rfl⟩ | rfl | exact rowc (List.map_id _) | trivial
  · try refine gb ?_
    rw [hr, List.drop_eq_nil_of_le (by omega)]
    exact ⟨le_refl _, rfl⟩
theorem hasDir2_ok (m : Man) (w : List UInt8) (hl : m.ents.length ≤ 100000000000000) : Spec Tryz.prog LL 50 [eMan m, .s w] (.b (dirB2 m.ents w)) := by
  refine spec_of (C := ⟨Tryz.prog, LL, EE, []⟩) (rl := [.b (dirB2 m.ents w)]) (rs := [.tmp 4]) CCx LLs Tryz.func50 rfl (by kernel_rfl) rfl (by kernel_rfl) (Nat.le_of_ble_eq_true rfl) (fun i => rfl) (fun i => by first | rfl | exact (Bool.or_false _).trans (eSd_men _ _)) rfl (by decide) ?_
  refine gb ?_
  refine cl (has_ok m w hl) ?_
  refine gb ?_
  repeat' (first | exact True.intro | (unfold dirB2; simp_all; done) | refine br (fun h => ?_) (fun h => ?_) | refine gb ?_)
def ixS : List (List UInt8) → List UInt8 → Int → Int
  | [], _, _ => -1
  | x :: r, w, k => if w = x then k else ixS r w (k + 1)
theorem ixS_mem : ∀ (l : List (List UInt8)) (w : List UInt8) (k : Int), 0 ≤ k → (0 ≤ ixS l w k ↔ w ∈ l)
  | [], w, k, h => by simp [ixS]
  | x :: r, w, k, h => by
    unfold ixS
    by_cases c : w = x
    · rw [if_pos c]; simp [c, h]
    · rw [if_neg c, ixS_mem r w (k + 1) (by omega)]; simp [c]
theorem sindex_ok (l : List (List UInt8)) (w : List UInt8) (hl : l.length ≤ 100000000000000) : Spec Tryz.prog LL 70 [.sl 1 (List UInt8) [] l .s, .s w] (.n .i64 (ixS l w 0)) := by
  refine spec_of (C := ⟨Tryz.prog, LL, EE, []⟩) (rl := [.n .i64 (ixS l w 0)]) (rs := [.tmp 4]) CCx LLs Tryz.func70 rfl (by kernel_rfl) rfl (by kernel_rfl) (Nat.le_of_ble_eq_true rfl) (fun i => rfl) (fun i => by first | rfl | exact (Bool.or_false _).trans (eSd_men _ _)) rfl (by decide) ?_
  refine gb ?_
  refine lp_hd [0, 1, 7] [] (fun i : Nat => [(8, .n .i64 (i : Int))]) (fun i : Nat => []) (fun i : Nat => i ≤ l.length ∧ ixS l w 0 = ixS (l.drop i) w i) (fun i : Nat => l.length - i) (0) id (id) ⟨Nat.zero_le _, rfl⟩ (fits_of (gb ?_) (gb ?_) (gb ?_) (gb ?_) (gb ?_)) ?_
  · first | exact True.intro | exact ⟨rfl, rfl⟩ | exact ⟨rfl, rfl, rfl⟩ | rfl | exact rowc (List.map_id _) | trivial
  · first | exact True.intro | exact ⟨rfl, rfl⟩ | exact ⟨rfl, rfl, rfl⟩ | rfl | exact rowc (List.map_id _) | trivial
  · first | exact True.intro | exact ⟨rfl, rfl⟩ | exact ⟨rfl, rfl, rfl⟩ | rfl | exact rowc (List.map_id _) | trivial
  · first | exact True.intro | exact ⟨rfl, rfl⟩ | exact ⟨rfl, rfl, rfl⟩ | rfl | exact rowc (List.map_id _) | trivial
  · first | exact True.intro | exact ⟨rfl, rfl⟩ | exact ⟨rfl, rfl, rfl⟩ | rfl | exact rowc (List.map_id _) | trivial
  rintro i ⟨hi, hr⟩
  try refine gb ?_
  refine br (fun e => ?_) (fun e => ?_)
  · rw [drop_at l i [] (by omega), ixS] at hr
    try refine gb ?_
    generalize l.getD i [] = x at hr
    refine br (fun c => ?_) (fun c => ?_)
    · rw [if_pos c] at hr
      try refine gb ?_
      trivial
    · rw [if_neg c] at hr
      try refine gb ?_
      refine ⟨i + 1, ⟨by omega, by rw [hr]; simp⟩, (by omega), fits_of (gb ?_) (gb ?_) (gb ?_) (gb ?_) (gb ?_)⟩
      · first | exact True.intro | exact ⟨rfl, rfl⟩ | exact ⟨rfl, rfl, rfl⟩ | rfl | exact rowc (List.map_id _) | trivial
      · first | exact True.intro | exact ⟨rfl, rfl⟩ | exact ⟨rfl, rfl, rfl⟩ | rfl | exact rowc (List.map_id _) | trivial
      · first | exact True.intro | exact ⟨rfl, rfl⟩ | exact ⟨rfl, rfl, rfl⟩ | rfl | exact rowc (List.map_id _) | trivial
      · first | exact True.intro | exact ⟨rfl, rfl⟩ | exact ⟨rfl, rfl, rfl⟩ | rfl | exact rowc (List.map_id _) | trivial
      · first | exact True.intro | exact ⟨rfl, rfl⟩ | exact ⟨rfl, rfl, rfl⟩ | rfl | exact rowc (List.map_id _) | trivial
  · try refine gb ?_
    rw [hr, List.drop_eq_nil_of_le (by omega)]
    trivial
theorem contains_ok (l : List (List UInt8)) (w : List UInt8) (hl : l.length ≤ 100000000000000) : Spec Tryz.prog LL 44 [.sl 1 (List UInt8) [] l .s, .s w] (.b (decide (w ∈ l))) := by
  refine spec_of (C := ⟨Tryz.prog, LL, EE, []⟩) (rl := [.b (decide (w ∈ l))]) (rs := [.tmp 4]) CCx LLs Tryz.func44 rfl (by kernel_rfl) rfl (by kernel_rfl) (Nat.le_of_ble_eq_true rfl) (fun i => rfl) (fun i => by first | rfl | exact (Bool.or_false _).trans (eSd_men _ _)) rfl (by decide) ?_
  refine gb ?_
  refine cl (sindex_ok l w hl) ?_
  refine gb ?_
  have := ixS_mem l w 0 (Int.le_refl 0)
  simp only [this]
/-- What a database's lists have room for. -/
structure Bas.Big (b : Bas) : Prop where
  p : b.packs.length ≤ 1353245080300
  d : b.dirs.length ≤ 4398046511104
  m : ∀ m ∈ b.packs, m.Fit ∧ m.Big
  s : ∀ x ∈ b.dirs, x.path.length ≤ 140737488355328
theorem find_ok (b : Bas) (w : List UInt8) (hb : b.Big) : Spec Tryz.prog LL 19 [eBas b, .s w] (.tp [eMan (findM b.packs w).1, .b (findM b.packs w).2]) := by
  refine spec_of (C := ⟨Tryz.prog, LL, EE, []⟩) (rl := [eMan (findM b.packs w).1, .b (findM b.packs w).2]) (rs := [.cell 4 30, .tmp 5]) CCx LLs Tryz.func19 rfl (by kernel_rfl) rfl (by kernel_rfl) (Nat.le_of_ble_eq_true rfl) (fun i => rfl) (fun i => by first | rfl | exact (Bool.or_false _).trans (eSd_men _ _)) rfl (by decide) ?_
  refine gb ?_
  have hbp := hb.p
  refine lp_hd [1, 4, 9, 10] [4] (fun i : Nat => [(11, .n .i64 (i : Int))]) (fun i : Nat => []) (fun i : Nat => i ≤ b.packs.length ∧ findM b.packs w = findM (b.packs.drop i) w) (fun i : Nat => b.packs.length - i) (0) id (id) ⟨Nat.zero_le _, rfl⟩ (fits_of (gb ?_) (gb ?_) (gb ?_) (gb ?_) (gb ?_)) ?_
  · first | exact True.intro | exact ⟨rfl, rfl⟩ | exact ⟨rfl, rfl, rfl⟩ | rfl | exact rowc (List.map_id _) | trivial
  · first | exact True.intro | exact ⟨rfl, rfl⟩ | exact ⟨rfl, rfl, rfl⟩ | rfl | exact rowc (List.map_id _) | trivial
  · first | exact True.intro | exact ⟨rfl, rfl⟩ | exact ⟨rfl, rfl, rfl⟩ | rfl | exact rowc (List.map_id _) | trivial
  · first | exact True.intro | exact ⟨rfl, rfl⟩ | exact ⟨rfl, rfl, rfl⟩ | rfl | exact rowc (List.map_id _) | trivial
  · first | exact True.intro | exact ⟨rfl, rfl⟩ | exact ⟨rfl, rfl, rfl⟩ | rfl | exact rowc (List.map_id _) | trivial
  rintro i ⟨hi, hr⟩
  try refine gb ?_
  refine br (fun e => ?_) (fun e => ?_)
  · rw [drop_at b.packs i dMn (by omega), findM] at hr
    have hm := hb.m _ (getD_mem (x := dMn) (show i < b.packs.length by omega))
    try refine gb ?_
    generalize b.packs.getD i dMn = x at hr hm
    refine br (fun c => ?_) (fun c => ?_)
    · rw [if_pos c] at hr
      try refine gb ?_
      refine cl (copied_ok x hm.2) ?_
      refine gb ?_
      rw [hr]
      exact ⟨le_refl _, rfl⟩
    · rw [if_neg c] at hr
      try refine gb ?_
      refine ⟨i + 1, ⟨by omega, hr⟩, (by omega), fits_of (gb ?_) (gb ?_) (gb ?_) (gb ?_) (gb ?_)⟩
      · first | exact True.intro | exact ⟨rfl, rfl⟩ | exact ⟨rfl, rfl, rfl⟩ | rfl | exact rowc (List.map_id _) | trivial
      · first | exact True.intro | exact ⟨rfl, rfl⟩ | exact ⟨rfl, rfl, rfl⟩ | rfl | exact rowc (List.map_id _) | trivial
      · first | exact True.intro | exact ⟨rfl, rfl⟩ | exact ⟨rfl, rfl, rfl⟩ | rfl | exact rowc (List.map_id _) | trivial
      · first | exact True.intro | exact ⟨rfl, rfl⟩ | exact ⟨rfl, rfl, rfl⟩ | rfl | exact rowc (List.map_id _) | trivial
      · first | exact True.intro | exact ⟨rfl, rfl⟩ | exact ⟨rfl, rfl, rfl⟩ | rfl | exact rowc (List.map_id _) | trivial
  · try refine gb ?_
    rw [hr, List.drop_eq_nil_of_le (by omega)]
    exact ⟨dM_le, rfl⟩
theorem owner_ok (b : Bas) (w : List UInt8) (hb : b.Big) : Spec Tryz.prog LL 64 [eBas b, .s w] (.tp [.s (ownM b.packs w).1, .b (ownM b.packs w).2]) := by
  refine spec_of (C := ⟨Tryz.prog, LL, EE, []⟩) (rl := [.s (ownM b.packs w).1, .b (ownM b.packs w).2]) (rs := [.tmp 4, .tmp 5]) CCx LLs Tryz.func64 rfl (by kernel_rfl) rfl (by kernel_rfl) (Nat.le_of_ble_eq_true rfl) (fun i => rfl) (fun i => by first | rfl | exact (Bool.or_false _).trans (eSd_men _ _)) rfl (by decide) ?_
  refine gb ?_
  have hbp := hb.p
  refine lp_hd [1, 11, 12] [] (fun i : Nat => [(13, .n .i64 (i : Int))]) (fun i : Nat => []) (fun i : Nat => i ≤ b.packs.length ∧ ownM b.packs w = ownM (b.packs.drop i) w) (fun i : Nat => b.packs.length - i) (0) id (id) ⟨Nat.zero_le _, rfl⟩ (fits_of (gb ?_) (gb ?_) (gb ?_) (gb ?_) (gb ?_)) ?_
  · first | exact True.intro | exact ⟨rfl, rfl⟩ | exact ⟨rfl, rfl, rfl⟩ | rfl | exact rowc (List.map_id _) | trivial
  · first | exact True.intro | exact ⟨rfl, rfl⟩ | exact ⟨rfl, rfl, rfl⟩ | rfl | exact rowc (List.map_id _) | trivial
  · first | exact True.intro | exact ⟨rfl, rfl⟩ | exact ⟨rfl, rfl, rfl⟩ | rfl | exact rowc (List.map_id _) | trivial
  · first | exact True.intro | exact ⟨rfl, rfl⟩ | exact ⟨rfl, rfl, rfl⟩ | rfl | exact rowc (List.map_id _) | trivial
  · first | exact True.intro | exact ⟨rfl, rfl⟩ | exact ⟨rfl, rfl, rfl⟩ | rfl | exact rowc (List.map_id _) | trivial
  rintro i ⟨hi, hr⟩
  try refine gb ?_
  refine br (fun e => ?_) (fun e => ?_)
  · rw [drop_at b.packs i dMn (by omega), ownM] at hr
    have hm := hb.m _ (getD_mem (x := dMn) (show i < b.packs.length by omega))
    try refine gb ?_
    generalize b.packs.getD i dMn = x at hr hm
    refine cl (has_ok x w hm.1.el) ?_
    refine gb ?_
    unfold fileB at hr
    repeat' (first | exact True.intro | (simp_all; done) | (refine ⟨i + 1, ⟨by omega, by rw [hr]; simp_all⟩, (by omega), fits_of (gb ?_) (gb ?_) (gb ?_) (gb ?_) (gb ?_)⟩ <;> (first | exact True.intro | exact ⟨rfl, rfl⟩ | exact ⟨rfl, rfl, rfl⟩ | rfl | exact rowc (List.map_id _) | trivial); done) | refine br (fun h => ?_) (fun h => ?_) | refine gb ?_)
  · try refine gb ?_
    rw [hr, List.drop_eq_nil_of_le (by omega)]
    exact ⟨rfl, rfl⟩
end Go.Proofs.YtjbnmeofjiokeaaGreatDoor.Ev
