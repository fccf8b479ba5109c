/- Functions that are given blocks and rows: their contracts. -/
import Derived.Test.YtikmkgoeepgbkaaGreatDoorKD
set_option linter.all false
namespace Go.Proofs.YtikmkgoeepgbkaaGreatDoor.Ev
open Go.RowKit
open Go.Proofs.YtikmkgoeepgbkaaGreatDoor.Mem
set_option linter.unusedVariables false
set_option linter.unusedSimpArgs false
def iniP (l : List V) (B : List (Nat × Bk)) : St :=
  { sl := fun t => l.getD t .j, bk := fun i => B.lookup i, al := fun i => (B.map (·.1)).contains i }
/-- What is handed back: values and blocks, their names by κ; rows ids are let go. -/
def OutP (C : Cx) (rs : List ResultVar) (l : List V) (B' : List (Nat × Bk)) (σ : St) : Prop :=
  ∃ (ids : List Nat) (κ : Nat → Nat), vRes C.P (σ.fz ids).bk (σ.fz ids).sl rs (fun vl => leL vl (rnL (fxr κ) l)) ∧ (∀ p ∈ B', (σ.fz ids).bk (fxr κ p.1) = some (rnB (fxr κ) p.2)) ∧ (∀ p ∈ B', ∀ q ∈ B', fxr κ p.1 = fxr κ q.1 → p.1 = q.1)
theorem lookup_in {B : List (Nat × Bk)} {i : Nat} {b : Bk} (h : B.lookup i = some b) : (i, b) ∈ B := by
  induction B with
  | nil => simp at h
  | cons p l ih =>
    obtain ⟨pi, pb⟩ := p
    rw [List.lookup_cons] at h
    cases e : i == pi with
    | true =>
      rw [e] at h
      simp only [Option.some.injEq] at h
      rw [beq_iff_eq.1 e, h]
      simp
    | false =>
      rw [e] at h
      exact List.mem_cons_of_mem _ (ih h)
theorem key_al {B : List (Nat × Bk)} {i : Nat} : (B.map (·.1)).contains i = true ↔ keyB B i := by
  rw [List.contains_iff_mem, List.mem_map]
  constructor
  · rintro ⟨⟨j, b⟩, h, rfl⟩; exact ⟨b, h⟩
  · rintro ⟨b, h⟩; exact ⟨_, h, rfl⟩
theorem named_all {F : Nat → Prop} {W : World} {G : Gm} {κ : Nat → Nat} : ∀ {rl : List V} {ys : List Value}, All2 (Rep F W G) (rnL κ rl) ys → All2 (Rep F W fun i => G (κ i)) rl ys
  | [], _, .nil => .nil
  | y :: l, _, .cons h t => .cons (h.named y rfl) (named_all t)
theorem spec_ofP {C : Cx} {f : Nat} {fn : Func} {c : Code} {l rl : List V} {rs : List ResultVar} {B B' : List (Nat × Bk)} (hx : C.P.follows .mixedOrders = true) (hS : Stab C.L) (hf : C.P.funcs[f]? = some fn) (hb : fn.body = some c) (hname : (fn.name == "runtime.NumGoroutine") = false) (hrs : fn.results = rs.toArray)
    (hchk0 : chkM fn.ntmps c = true) (hlen : l.length ≤ fn.ntmps) (hm : ∀ i, menL l i = true → keyB B i) (hmB : ∀ p ∈ B, ∀ k, p.2.men k = true → keyB B k) (n1 : (B.map (·.1)).Nodup) (n2 : (B'.map (·.1)).Nodup)
    (hmr : ∀ i, menL rl i = true → keyB B' i) (n4 : ∀ p ∈ B', ∀ k, p.2.men k = true → keyB B' k) (n5 : ∀ k, 1000000000 ≤ k → keyB B' k → keyB B k) (hlr : rl.length = rs.length) (hl4 : rs.length ≤ 4)
    (h : wpC C c ⟨OutP C rs rl B', fun _ _ => False, OutP C rs rl B'⟩ (iniP l B)) : SpecP C.P C.L f l B (pack rl) B' := by
  classical
  refine ⟨⟨fn, hf, by rw [hb]; rfl, hname⟩, ⟨n1, n2, fun i hi => ?_, n4, n5⟩, fun S t W Gi xs hL ht hxs hr hSW hBk hap => ?_⟩
  · refine hmr i ?_
    unfold pack at hi
    split at hi
    · simpa [menL] using hi
    · simpa [men] using hi
  · obtain ⟨hml, hchk⟩ : fn.ntmps ≤ 1000000000 ∧ chk fn.ntmps c = true := by unfold chkM at hchk0; simpa using hchk0
    let w0 : Bs := ⟨W, obB Gi B, t, ht, fun g ⟨p, hp, hg⟩ => ((hBk p hp).2 g hg).1, fun i => if 1000000000 ≤ i ∧ keyB B i then some (Gi i) else none⟩
    have hR : RelG w0 S fn.ntmps Gi S (iniP l B) { tmps := xs ++ Array.replicate (fn.ntmps - xs.size) undef, defers := [] } W := by
      refine ⟨BelX.refl _ _, by simp; omega, fun t => ?_, fun i b h => (hBk _ (lookup_in h)).1, fun i b g h hg => ?_, fun i i' b b' g hii h h' hg => hap _ (lookup_in h) _ (lookup_in h') hii g hg, fun g hg => ⟨hSW g hg, .inr hg⟩, rfl, fun t i h => ?_, fun i b h => ⟨key_al.2 ⟨b, lookup_in h⟩, fun k hk => key_al.2 (hmB _ (lookup_in h) k hk)⟩, fun i A h => ?_, hml⟩
      · simp only [iniP]
        by_cases ht : t < l.length
        · have e1 : l[t]? = some (l.getD t .j) := by rw [List.getD_eq_getElem?_getD, List.getElem?_eq_getElem ht]; rfl
          refine hr t _ _ e1 ?_
          rw [Array.getD_eq_getD_getElem?, Array.getElem?_append_left (by omega), Array.getElem?_eq_getElem (by omega)]
          rfl
        · rw [List.getD_eq_getElem?_getD, List.getElem?_eq_none (by omega)]
          exact .j _ _
      · obtain ⟨k1, k2, k3⟩ := (hBk _ (lookup_in h)).2 g hg
        exact ⟨.inr ⟨_, lookup_in h, hg⟩, k2, k3⟩
      · simp only [iniP] at h ⊢
        by_cases ht : t < l.length
        · have e1 : l[t]? = some (l.getD t .j) := by rw [List.getD_eq_getElem?_getD, List.getElem?_eq_getElem ht]; rfl
          exact key_al.2 (hm i (menL_of e1 h))
        · rw [List.getD_eq_getElem?_getD, List.getElem?_eq_none (by omega)] at h
          cases h
      · have h : (if 1000000000 ≤ i ∧ keyB B i then some (Gi i) else none) = some A := h
        split at h
        · rename_i hc
          exact ⟨hc.1, Option.some.inj h⟩
        · cases h
    refine calls_of_wp hf hb (Code.wp_mono (fun e a' W' hq => ?_) (wpC_ok hx hS (w0 := w0) hL c _ _ _ _ hchk h ⟨Gi, S, hR⟩))
    have fin : (∃ σ, Rel w0 S fn.ntmps σ a' W' ∧ OutP C rs rl B' σ) → a'.defers = [] ∧ ∃ v, (results fn a'.tmps).run C.P W' = .ok v W' ∧ ∃ v1 F' G', Ending.returned v = .returned v1 ∧ Frm Gi B W W' ∧ (∀ g, F' g → g < W'.heap.size ∧ (W.heap.size ≤ g ∨ obB Gi B g ∨ S g)) ∧ Rep F' W' G' (pack rl) v1 ∧
        (∀ p ∈ B', BkRep F' W' G' p.1 p.2 ∧ ∀ g, p.2.ob G' p.1 g → (W.heap.size ≤ g ∨ obB Gi B g) ∧ g < W'.heap.size ∧ ¬ F' g) ∧ apB G' B' ∧ ∀ k, 1000000000 ≤ k → keyB B k → G' k = Gi k := by
      rintro ⟨σ, ⟨G, F0, hG0⟩, ids, κ, ho, hbs, hinj⟩
      have hG := hG0.fz ids
      generalize hF : Fz G F0 σ ids = F at hG
      obtain ⟨l0, ys, ho, hrun, hrep⟩ := vRes_ok hG ho
      have hob : ∀ p ∈ B', ∀ g, p.2.ob (fun i => G (fxr κ i)) p.1 g → (rnB (fxr κ) p.2).ob G (fxr κ p.1) g := fun p hp g hg => (ob_rnB (G2 := G) (G' := fun i => G (fxr κ i)) rfl g).2 hg
      refine ⟨hG.defers, _, run_res hrs hl4 hrun, _, F, fun i => G (fxr κ i), rfl, ⟨hG.below.os, hG.below.tape, hG.below.output, hG.below.size, fun g hg hn => hG.below.block g fun hm => ?_⟩, fun g hg => ?_, ?_, fun p hp => ⟨?_, fun g hg => ?_⟩, fun p hp q hq hne g hg hg' => ?_, fun k hk hkB => ?_⟩
      · rcases hm with hm | hm
        · exact absurd (show W.heap.size ≤ g from hm) (by omega)
        · exact hn hm
      · obtain ⟨k1, k2⟩ := hG.fin g hg
        refine ⟨k1, ?_⟩
        rcases k2 with (k2 | k2) | k2
        · exact .inl k2
        · exact .inr (.inl k2)
        · exact .inr (.inr k2)
      · have key : All2 (Rep F W' fun i => G (fxr κ i)) rl ys := named_all (leL_all ho hrep)
        match rl, ys, key with
        | [], [], _ => exact .tp _ _ _ rfl fun q y v h => by simp at h
        | [y], [x], .cons k _ => exact k
        | y :: y' :: rl, x :: x' :: ys, key => exact .tp _ _ _ (by simpa using key.length_eq.symm) fun q z v e1 e2 => key.get q z v e1 (by simpa using e2)
      · have hb := hG.blk _ _ (hbs p hp)
        obtain ⟨pi, pb⟩ := p
        cases pb with
        | cells T l =>
          obtain ⟨c, q1, q2, q3⟩ := hb
          exact ⟨c, q1, by rw [q2, rnL_len], fun q y v e1 e2 => (q3 q (rnV (fxr κ) y) v (by rw [rnL_get, e1]; rfl) e2).named y rfl⟩
        | row T z α d l e c => exact hb
        | itr l p => exact hb
      · obtain ⟨k1, k2, k3⟩ := hG.own _ _ g (hbs p hp) (hob p hp g hg)
        exact ⟨k1, k2, k3⟩
      · exact hG.apart (fxr κ p.1) (fxr κ q.1) _ _ g (fun e => hne (hinj p hp q hq e)) (hbs p hp) (hbs q hq) (hob p hp g hg) (hob q hq g hg')
      · have e : fxr κ k = k := by unfold fxr; rw [decide_eq_true hk]; rfl
        show G (fxr κ k) = _
        rw [e]
        exact (hG.fix k (Gi k) (if_pos ⟨hk, hkB⟩)).2
    cases e with
    | normal => exact fin hq
    | ret => exact fin hq
    | exit i => obtain ⟨_, _, h⟩ := hq; exact h.elim
    | _ => exact hq.elim
end Go.Proofs.YtikmkgoeepgbkaaGreatDoor.Ev
