/- Texts split and joined again: what is printed is read. -/
import Derived.Test.YtagjeabdcjcchaaGreatDoorND
set_option linter.all false
namespace Go.Proofs.YtagjeabdcjcchaaGreatDoor.Ev
open Go.RowKit
open Go.Proofs.YtagjeabdcjcchaaGreatDoor.Mem
set_option linter.unusedVariables false
set_option linter.unusedSimpArgs false
set_option maxRecDepth 100000
theorem sp_no {c : UInt8} : ∀ {s : List UInt8}, c ∉ s → sp c s = [s]
  | [], _ => rfl
  | x :: r, h => by
    have h1 : ¬ x = c := fun e => h (by simp [e])
    have h2 := sp_no (c := c) (s := r) fun e => h (by simp [e])
    unfold sp
    rw [if_neg h1, h2]
    rfl
theorem sp_app {c : UInt8} : ∀ {a b : List UInt8}, c ∉ a → sp c (a ++ c :: b) = a :: sp c b
  | [], b, _ => by simp [sp]
  | x :: r, b, h => by
    have h1 : ¬ x = c := fun e => h (by simp [e])
    have h2 := sp_app (c := c) (a := r) (b := b) fun e => h (by simp [e])
    rw [List.cons_append]
    conv => lhs; unfold sp
    rw [if_neg h1, h2]
    rfl
theorem join_cc (a b : List UInt8) (l : List (List UInt8)) (c : UInt8) : Lib.join (a :: b :: l) [c] = a ++ c :: Lib.join (b :: l) [c] := by
  rw [Lib.join_cons, Lib.join_cons]
  simp [Lib.joinTail]
theorem join_hd (x : UInt8) (a : List UInt8) (l : List (List UInt8)) (c : UInt8) : Lib.join ((x :: a) :: l) [c] = x :: Lib.join (a :: l) [c] := by
  rw [Lib.join_cons, Lib.join_cons]
  rfl
theorem join_sp (c : UInt8) : ∀ s : List UInt8, Lib.join (sp c s) [c] = s
  | [] => by simp [sp, Lib.join_one]
  | x :: r => by
    have h := join_sp c r
    have hn := sp_ne c r
    cases e : sp c r with
    | nil => exact absurd e hn
    | cons a l =>
      rw [e] at h
      unfold sp
      rw [e]
      split
      · rename_i h1
        rw [join_cc, h, h1]
        rfl
      · rw [List.headD_cons, List.tail_cons, join_hd, h]
theorem sp_join {c : UInt8} : ∀ {l : List (List UInt8)}, l ≠ [] → (∀ w ∈ l, c ∉ w) → sp c (Lib.join l [c]) = l
  | [], h, _ => absurd rfl h
  | [a], _, h => by rw [Lib.join_one, sp_no (h a (by simp))]
  | a :: b :: l, _, h => by
    rw [join_cc, sp_app (h a (by simp)), sp_join (by simp) fun w hw => h w (by simp [hw])]
theorem flat_join (c : UInt8) : ∀ {l : List (List UInt8)}, l ≠ [] → l.flatMap (· ++ [c]) = Lib.join l [c] ++ [c]
  | [], h => absurd rfl h
  | [a], _ => by simp [Lib.join_one]
  | a :: b :: l, _ => by
    rw [List.flatMap_cons, flat_join c (by simp), join_cc]
    simp
theorem suf_app (a : List UInt8) (c : UInt8) : Lib.hasSuffix (a ++ [c]) [c] = true ∧ Lib.trimSuffix (a ++ [c]) [c] = a := by
  have h : Lib.hasSuffix (a ++ [c]) [c] = true := by unfold Lib.hasSuffix; rw [List.isSuffixOf_iff_suffix]; exact ⟨a, rfl⟩
  refine ⟨h, ?_⟩
  unfold Lib.trimSuffix
  rw [if_pos h]
  simp
theorem suf_of {s : List UInt8} {c : UInt8} (h : Lib.hasSuffix s [c] = true) : s = Lib.trimSuffix s [c] ++ [c] := by
  have h1 := h
  unfold Lib.hasSuffix at h1
  rw [List.isSuffixOf_iff_suffix] at h1
  obtain ⟨t, rfl⟩ := h1
  rw [(suf_app t c).2]
/-! ### A manifest's lines -/
def lnR (w : List UInt8) (r : Rul) : List UInt8 := Lib.join (if r.op = 0 then [w, r.name] else [w, r.name, signL r.op, r.ver]) [32]
def wsE (x : Ent) : List (List UInt8) :=
  if x.kind = 2 then [wDir, octD 4 x.mode.toNat, x.path] else if x.kind = 3 then [wLink, x.path, x.target] else
  [if x.kind = 5 then wConf else wFile, octD 4 x.mode.toNat, hexL x.sum, x.path]
def lnE (x : Ent) : List UInt8 := Lib.join (wsE x) [32]
def linesM (m : Man) : List (List UInt8) := wHead :: Lib.join [wName, m.name] [32] :: Lib.join [wVers, m.ver] [32] :: (m.needs.map (lnR wNeeds) ++ m.clashes.map (lnR wClash) ++ m.ents.map lnE)
theorem ruleL_ln (w : List UInt8) (r : Rul) : ruleL w r = lnR w r ++ [10] := by
  unfold ruleL lnR lineL
  split <;> rfl
theorem entL_ln (x : Ent) : entL x = lnE x ++ [10] := by
  unfold entL lnE wsE lineL
  split
  · rfl
  · split <;> rfl
theorem textM_lines (m : Man) : textM m = (linesM m).flatMap (· ++ [10]) := by
  have h1 : rulesL wNeeds m.needs = (m.needs.map (lnR wNeeds)).flatMap (· ++ [10]) := by
    rw [rulesL, List.flatMap_map, show ruleL wNeeds = _ from funext (ruleL_ln wNeeds)]
  have h2 : rulesL wClash m.clashes = (m.clashes.map (lnR wClash)).flatMap (· ++ [10]) := by
    rw [rulesL, List.flatMap_map, show ruleL wClash = _ from funext (ruleL_ln wClash)]
  have h3 : entsL m.ents = (m.ents.map lnE).flatMap (· ++ [10]) := by
    rw [entsL, List.flatMap_map, show entL = _ from funext entL_ln]
  rw [textM, preL, h1, h2, h3, linesM]
  simp [lineL]
theorem textM_join (m : Man) : textM m = Lib.join (linesM m) [10] ++ [10] := by
  rw [textM_lines, flat_join 10 (by simp [linesM])]
/-! ### What is read is written as it stood -/
theorem sgn_hlf (c : UInt8) (h : 0 ≤ hlf c) : (hlf c).toNat < 16 ∧ sgn (hlf c).toNat = c := by
  have hr := hlf_rng c
  have hc : c.toNat < 256 := c.toNat_lt
  refine ⟨by omega, UInt8.toNat_inj.1 ?_⟩
  unfold sgn
  rw [UInt8.toNat_ofNat']
  unfold hlf at h ⊢
  split
  · rw [if_pos (by omega)]; omega
  · split
    · rw [if_neg (by omega)]; omega
    · rename_i h1 h2; rw [if_neg h1, if_neg h2] at h; omega
theorem hex_un : ∀ s : List UInt8, (unhexL s).2 = true → hexL (unhexL s).1 = s
  | [], _ => rfl
  | [_], h => by simp [unhexL] at h
  | a :: b :: r, h => by
    unfold unhexL at h ⊢
    split at h
    · cases h
    · rename_i h1
      rw [if_neg h1]
      cases e : (unhexL r).2 with
      | false => rw [e] at h; cases h
      | true =>
        have ih := hex_un r e
        rw [cond_true]
        have key := sgn_hlf
        have ka := key a (by omega)
        have kb := key b (by omega)
        rw [show hexL (UInt8.ofNat (16 * (hlf a).toNat + (hlf b).toNat) :: (unhexL r).1) = sgn ((UInt8.ofNat (16 * (hlf a).toNat + (hlf b).toNat)).toNat / 16) :: sgn ((UInt8.ofNat (16 * (hlf a).toNat + (hlf b).toNat)).toNat % 16) :: hexL (unhexL r).1 from rfl, ih]
        rw [UInt8.toNat_ofNat', Nat.mod_eq_of_lt (by omega), show (16 * (hlf a).toNat + (hlf b).toNat) / 16 = (hlf a).toNat by omega, show (16 * (hlf a).toNat + (hlf b).toNat) % 16 = (hlf b).toNat by omega, ka.2, kb.2]
theorem opF_sign {w : List UInt8} : ∀ k o, ¬ opF w k o = 0 → signL (opF w k o : Int) = w
  | 0, o, h => absurd rfl h
  | k + 1, o, h => by
    unfold opF at h ⊢
    split
    · assumption
    · rename_i h1
      rw [if_neg h1] at h
      exact opF_sign k (o + 1) h
theorem getD_cons {α : Type} {l : List α} {n : Nat} {d : α} (h : n < l.length) : l.drop n = l.getD n d :: l.drop (n + 1) := drop_at l n d h
theorem list3 {l : List (List UInt8)} (h : l.length = 3) : l = [l.getD 0 [], l.getD 1 [], l.getD 2 []] := by
  match l, h with
  | [a, b, c], _ => rfl
theorem list4 {l : List (List UInt8)} (h : l.length = 4) : l = [l.getD 0 [], l.getD 1 [], l.getD 2 [], l.getD 3 []] := by
  match l, h with
  | [a, b, c, d], _ => rfl
theorem list2 {l : List (List UInt8)} (h : l.length = 2) : l = [l.getD 0 [], l.getD 1 []] := by
  match l, h with
  | [a, b], _ => rfl
theorem rdRule_ln {l : List UInt8} {w : List UInt8} (hw : (sp 32 l).getD 0 [] = w) (h : (rdRule ((sp 32 l).drop 1)).2 = true) : l = lnR w (rdRule ((sp 32 l).drop 1)).1 := by
  have hj := join_sp 32 l
  have hn := sp_pos 32 l
  generalize sp 32 l = ws at *
  unfold rdRule at h ⊢
  rw [List.length_drop] at h ⊢
  split at h
  · rename_i h1
    rw [if_pos h1]
    have h2 : ws.length = 2 := by omega
    unfold lnR
    rw [if_pos rfl, ← hj]
    congr 1
    rw [← hw]
    match ws, h2 with
    | [a, b], _ => rfl
  · rename_i h1
    rw [if_neg h1]
    split at h
    · rename_i h2
      rw [if_pos h2]
      have h3 : ws.length = 4 := by omega
      have h4 := opF_sign _ _ h2.2
      unfold lnR
      rw [if_neg (by dsimp only; omega), ← hj]
      congr 1
      rw [← hw]
      dsimp only
      rw [h4]
      match ws, h3 with
      | [a, b, c, d], _ => rfl
    · cases h
theorem mode_ln {s : List UInt8} (h : (modeM s).2 = true) : octD 4 (modeM s).1 = s := by
  unfold modeM at h ⊢
  split at h
  · cases h
  · rename_i h1
    rw [if_neg h1]
    exact Decidable.not_not.1 fun e => h1 (.inr (.inr e))
theorem thing_ws {ws : List (List UInt8)} (h0 : ws.getD 0 [] = wFile ∨ ws.getD 0 [] = wConf ∨ ws.getD 0 [] = wDir ∨ ws.getD 0 [] = wLink) (h : (thingM ws).2 = true) : wsE (thingM ws).1 = ws := by
  unfold thingM at h ⊢
  by_cases h1 : ws.getD 0 [] = wLink
  · rw [if_pos h1] at h ⊢
    split at h
    · cases h
    · rename_i h2
      rw [if_neg h2]
      unfold wsE
      rw [if_neg (show ¬ (3 : Int) = 2 by decide), if_pos rfl]
      dsimp only
      rw [← h1]
      exact (list3 (Decidable.not_not.1 h2)).symm
  rw [if_neg h1] at h ⊢
  by_cases h2 : ws.getD 0 [] = wDir
  · rw [if_pos h2] at h ⊢
    split at h
    · cases h
    · rename_i h3
      rw [if_neg h3]
      unfold wsE
      rw [if_pos rfl]
      dsimp only at h ⊢
      rw [Int.toNat_natCast, mode_ln h, ← h2]
      exact (list3 (Decidable.not_not.1 h3)).symm
  rw [if_neg h2] at h ⊢
  split at h
  · cases h
  · rename_i h3
    rw [if_neg h3]
    dsimp only at h
    rw [Bool.and_eq_true] at h
    have key : ∀ k : Int, k = 1 ∨ k = 5 → (if k = 5 then wConf else wFile) = ws.getD 0 [] → wsE ⟨k, ((modeM (ws.getD 1 [])).1 : Int), (unhexL (ws.getD 2 [])).1, ws.getD 3 [], []⟩ = ws := fun k hk hw => by
      unfold wsE
      rw [if_neg (by dsimp only; omega), if_neg (by dsimp only; omega)]
      dsimp only
      rw [Int.toNat_natCast, mode_ln h.1, hex_un _ h.2, hw]
      exact (list4 (Decidable.not_not.1 h3)).symm
    by_cases h4 : ws.getD 0 [] = wConf
    · rw [if_pos h4]
      exact key 5 (.inr rfl) h4.symm
    · rw [if_neg h4]
      refine key 1 (.inl rfl) ?_
      rcases h0 with e | e | e | e
      · exact e.symm
      · exact absurd e h4
      · exact absurd e h2
      · exact absurd e h1
/-- What a line says is the line again. -/
theorem read_ln (l : List UInt8) : match readM l with
    | .no => True
    | .nd r => l = lnR wNeeds r
    | .cl r => l = lnR wClash r
    | .th x => l = lnE x := by
  unfold readM
  by_cases h1 : (sp 32 l).getD 0 [] = wNeeds ∨ (sp 32 l).getD 0 [] = wClash
  · rw [if_pos h1]
    cases e : (rdRule ((sp 32 l).drop 1)).2 with
    | false => rw [if_pos rfl]; trivial
    | true =>
      rw [if_neg (by decide)]
      by_cases h2 : (sp 32 l).getD 0 [] = wNeeds
      · rw [if_pos h2]; exact rdRule_ln h2 e
      · rw [if_neg h2]; exact rdRule_ln (h1.resolve_left h2) e
  · rw [if_neg h1]
    by_cases h2 : ((sp 32 l).getD 0 [] = wFile ∨ (sp 32 l).getD 0 [] = wConf ∨ (sp 32 l).getD 0 [] = wDir ∨ (sp 32 l).getD 0 [] = wLink) ∧ (thingM (sp 32 l)).2 = true
    · rw [if_pos h2]
      show l = lnE _
      rw [lnE, thing_ws h2.1 h2.2, join_sp]
    · rw [if_neg h2]
      trivial
theorem goM_back : ∀ (ls : List (List UInt8)) (m m' : Man) (last : Int), 1 ≤ last → goM ls m last = (m', true) → ∃ a b c, m' = ⟨m.name, m.ver, m.needs ++ a, m.clashes ++ b, m.ents ++ c⟩ ∧ ls = a.map (lnR wNeeds) ++ b.map (lnR wClash) ++ c.map lnE ∧ (2 ≤ last → a = []) ∧ (3 ≤ last → b = [])
  | [], m, m', last, h0, h => by
    rw [goM, Prod.mk.injEq] at h
    exact ⟨[], [], [], by rw [← h.1]; simp, rfl, fun _ => rfl, fun _ => rfl⟩
  | l :: r, m, m', last, h0, h => by
    have hl := read_ln l
    cases hx : readM l with
    | no =>
      rw [goM_no hx, if_pos (by omega)] at h
      cases h
    | nd q =>
      rw [hx] at hl
      rw [goM_nd hx] at h
      split at h
      · cases h
      · obtain ⟨a, b, c, h1, h2, h3, h4⟩ := goM_back r _ m' 1 (by omega) h
        refine ⟨q :: a, b, c, by rw [h1]; simp, by rw [h2]; show l :: _ = _; rw [show l = lnR wNeeds q from hl]; simp, fun h => by omega, fun h => by omega⟩
    | cl q =>
      rw [hx] at hl
      rw [goM_cl hx] at h
      split at h
      · cases h
      · obtain ⟨a, b, c, h1, h2, h3, h4⟩ := goM_back r _ m' 2 (by omega) h
        have ha := h3 (by omega)
        subst ha
        refine ⟨[], q :: b, c, by rw [h1]; simp, by rw [h2]; show l :: _ = _; rw [show l = lnR wClash q from hl]; simp, fun _ => rfl, fun h => by omega⟩
    | th q =>
      rw [hx] at hl
      rw [goM_th hx] at h
      split at h
      · cases h
      · obtain ⟨a, b, c, h1, h2, h3, h4⟩ := goM_back r _ m' 3 (by omega) h
        have ha := h3 (by omega)
        have hb := h4 (by omega)
        subst ha
        subst hb
        exact ⟨[], [], q :: c, by rw [h1]; simp, by rw [h2]; show l :: _ = _; rw [show l = lnE q from hl]; simp, fun _ => rfl, fun _ => rfl⟩
theorem headM_back {s w : List UInt8} (h : (headM s w).2 = true) : s = Lib.join [w, (headM s w).1] [32] := by
  have hj := join_sp 32 s
  unfold headM at h ⊢
  split at h
  · cases h
  · rename_i h1
    rw [if_neg h1]
    have h2 : (sp 32 s).length = 2 := Decidable.not_not.1 fun e => h1 (.inl e)
    have h3 : (sp 32 s).getD 0 [] = w := Decidable.not_not.1 fun e => h1 (.inr e)
    dsimp only
    rw [← h3, ← list2 h2, hj]
theorem readAllM_back {ws : List (List UInt8)} (h : (readAllM ws).2 = true) : linesM (readAllM ws).1 = ws := by
  unfold readAllM at h ⊢
  split at h
  · cases h
  rename_i h1
  rw [if_neg h1]
  split at h
  · cases h
  rename_i h2
  rw [if_neg h2]
  have h3 : (headM (ws.getD 1 []) wName).2 = true := by
    cases e : (headM (ws.getD 1 []) wName).2 with
    | true => rfl
    | false => exact absurd (.inl e) h2
  have h4 : (headM (ws.getD 2 []) wVers).2 = true := by
    cases e : (headM (ws.getD 2 []) wVers).2 with
    | true => rfl
    | false => exact absurd (.inr e) h2
  have h5 : ws.getD 0 [] = wHead := Decidable.not_not.1 fun e => h1 (.inr e)
  have h6 : 3 ≤ ws.length := by have := fun e => h1 (.inl e); omega
  obtain ⟨a, b, c, e1, e2, _, _⟩ := goM_back (ws.drop 3) _ (goM (ws.drop 3) ⟨(headM (ws.getD 1 []) wName).1, (headM (ws.getD 2 []) wVers).1, [], [], []⟩ 1).1 1 (Int.le_refl 1) (Prod.ext rfl h)
  rw [e1]
  unfold linesM
  dsimp only
  rw [← headM_back h3, ← headM_back h4, ← h5, List.nil_append, List.nil_append, List.nil_append, ← e2]
  have q0 := getD_cons (l := ws) (n := 0) (d := []) (by omega)
  have q1 := getD_cons (l := ws) (n := 1) (d := []) (by omega)
  have q2 := getD_cons (l := ws) (n := 2) (d := []) (by omega)
  rw [← q2, ← q1]
  exact q0.symm
/-- What is read may be, and is written as it stood. -/
theorem parseM_back {s : List UInt8} (h : (parseM s).2 = 0) : checkM (parseM s).1 = 0 ∧ textM (parseM s).1 = s := by
  unfold parseM at h ⊢
  split at h
  · cases h
  rename_i h1
  rw [if_neg h1]
  split at h
  · cases h
  rename_i h2
  rw [if_neg h2]
  split at h
  · cases h
  rename_i h3
  rw [if_neg h3]
  split at h
  · rename_i h4; exact absurd h h4
  rename_i h4
  rw [if_neg h4]
  have h5 := readAllM_back (by simpa using h3)
  refine ⟨Decidable.not_not.1 h4, ?_⟩
  rw [textM_join, h5, join_sp]
  exact (suf_of (by simpa using h2)).symm
end Go.Proofs.YtagjeabdcjcchaaGreatDoor.Ev
namespace Go.Proofs.YtagjeabdcjcchaaGreatDoor.Ev
open Go.RowKit
open Go.Proofs.YtagjeabdcjcchaaGreatDoor.Mem
set_option linter.unusedVariables false
set_option linter.unusedSimpArgs false
set_option maxRecDepth 100000
theorem dec_cont (s : List UInt8) (i : Nat) (hb : 128 ≤ by' s i) (k : Nat) (h1 : i < k) (h2 : k < i + (dec s i).2) : 128 ≤ by' s k := by
  have e : ∀ j, ((tx s).get! (i + j)).toNat = by' s (i + j) := fun j => get_by s (i + j)
  unfold dec Utf8.decode Utf8.runeError at h2
  dsimp only at h2
  simp only [e, Nat.add_zero, get_by s i] at h2
  rw [if_neg (by omega)] at h2
  have hk : k = i + 1 ∨ k = i + 2 ∨ k = i + 3 ∨ i + 4 ≤ k := by omega
  repeat' split at h2
  all_goals simp only [Bool.and_eq_true, decide_eq_true_eq, beq_iff_eq] at *
  all_goals rcases hk with rfl | rfl | rfl | hk <;> omega
theorem runs_byte {f : Nat → Bool} {s : List UInt8} : ∀ n p, s.length - p ≤ n → runs f s p = true → ∀ k, p ≤ k → k < s.length → by' s k < 128 → f (by' s k) = true
  | 0, p, h0, h, k, h1, h2, h3 => by omega
  | n + 1, p, h0, h, k, h1, h2, h3 => by
    have hp : p < s.length := by omega
    rw [runs_lt hp, Bool.and_eq_true] at h
    have hd := dec_pos s p
    rcases Nat.lt_or_ge (by' s p) 128 with h4 | h4
    · rw [dec_lo s p hp h4] at h
      rcases Nat.lt_or_ge p k with h5 | h5
      · exact runs_byte n (p + 1) (by omega) h.2 k h5 h2 h3
      · rw [show k = p by omega]; exact h.1
    · rcases Nat.lt_or_ge k (p + (dec s p).2) with h5 | h5
      · rcases Nat.lt_or_ge p k with h6 | h6
        · have := dec_cont s p h4 k h6 h5; omega
        · rw [show k = p by omega] at h3; omega
      · exact runs_byte n _ (by omega) h.2 k h5 h2 h3
theorem mem_by {s : List UInt8} {b : UInt8} (h : b ∈ s) : ∃ i, i < s.length ∧ by' s i = b.toNat := by
  obtain ⟨i, hi, rfl⟩ := List.getElem_of_mem h
  refine ⟨i, hi, ?_⟩
  unfold by'
  rw [List.getD_eq_getElem?_getD, List.getElem?_eq_getElem hi]
  rfl
theorem signs_no {s : List UInt8} {sl : Bool} (h : signsB s sl = true) : 32 ∉ s ∧ 10 ∉ s := by
  unfold signsB at h
  rw [Bool.and_eq_true] at h
  refine ⟨fun hm => ?_, fun hm => ?_⟩ <;>
  · obtain ⟨i, h1, h2⟩ := mem_by hm
    have := runs_byte s.length 0 (by omega) h.2 i (by omega) h1 (by rw [h2]; decide)
    rw [h2] at this
    cases sl <;> exact absurd this (by decide)
theorem join_mem {b c : UInt8} : ∀ {l : List (List UInt8)}, b ∈ Lib.join l [c] → b = c ∨ ∃ w ∈ l, b ∈ w
  | [], h => by simp [Lib.join_nil] at h
  | [a], h => by rw [Lib.join_one] at h; exact .inr ⟨a, by simp, h⟩
  | a :: a2 :: l, h => by
    rw [join_cc] at h
    rcases List.mem_append.1 h with h | h
    · exact .inr ⟨a, by simp, h⟩
    · rcases List.mem_cons.1 h with h | h
      · exact .inl h
      · rcases join_mem h with h | ⟨w, hw, h⟩
        · exact .inl h
        · exact .inr ⟨w, List.mem_cons_of_mem _ hw, h⟩
theorem path_no {s : List UInt8} (h : (partsM s).2 = 0) : 32 ∉ s ∧ 10 ∉ s := by
  have hp : ∀ x ∈ sp 47 s, 32 ∉ x ∧ 10 ∉ x := by
    unfold partsM at h
    split at h
    · cases h
    · split at h
      · cases h
      · rename_i h1
        have h2 := Decidable.not_not.1 h1
        rw [List.all_eq_true] at h2
        intro x hx
        have := h2 x hx
        unfold partB at this
        simp only [Bool.and_eq_true] at this
        exact signs_no this.2
  rw [← join_sp 47 s]
  refine ⟨fun hm => ?_, fun hm => ?_⟩ <;>
  · rcases join_mem hm with h | ⟨w, hw, h⟩
    · exact absurd h (by decide)
    · first | exact (hp w hw).1 h | exact (hp w hw).2 h
theorem tar_no {s : List UInt8} (h : tarB s = true) : 32 ∉ s ∧ 10 ∉ s := by
  unfold tarB at h
  simp only [Bool.and_eq_true] at h
  exact signs_no h.2
theorem ix32 : Lib.indexByte nmarks 32 = -1 ∧ Lib.indexByte nmarks 10 = -1 ∧ Lib.indexByte vmarks 32 = -1 ∧ Lib.indexByte vmarks 10 = -1 := by decide
theorem all_no {f : Nat → Nat → Bool} {s : List UInt8} (h : allI f s s.length = true) (h1 : ∀ i, f i 32 = false) (h2 : ∀ i, f i 10 = false) : 32 ∉ s ∧ 10 ∉ s := by
  rw [allI_iff] at h
  refine ⟨fun hm => ?_, fun hm => ?_⟩ <;>
  · obtain ⟨i, q1, q2⟩ := mem_by hm
    have := h i q1
    rw [q2] at this
    first | exact absurd (this.symm.trans (h1 i)) (by decide) | exact absurd (this.symm.trans (h2 i)) (by decide)
theorem name_no {s : List UInt8} (h : nameB s = true) : 32 ∉ s ∧ 10 ∉ s := by
  unfold nameB at h
  rw [Bool.and_eq_true] at h
  exact all_no h.2 (fun i => by simp [okn, lowN, markB, ix32]) (fun i => by simp [okn, lowN, markB, ix32])
theorem ver_no {s : List UInt8} (h : verB s = true) : 32 ∉ s ∧ 10 ∉ s := by
  unfold verB at h
  rw [Bool.and_eq_true] at h
  exact all_no h.2 (fun i => by simp [okv, digN, letN, markB, ix32]) (fun i => by simp [okv, digN, letN, markB, ix32])
theorem get_oct : ∀ n, n < 4096 → getM (octD 4 n) = (n, 0) ∧ 32 ∉ octD 4 n ∧ 10 ∉ octD 4 n := by decide +kernel
theorem mode_oct {n : Nat} (h : n < 4096) : modeM (octD 4 n) = (n, true) := by
  unfold modeM
  rw [(get_oct n h).1]
  exact if_neg (by rintro (e | e | e) <;> first | exact e rfl | (dsimp only at e; omega))
theorem hlf_sgn : ∀ n, n < 16 → hlf (sgn n) = n ∧ sgn n ≠ 32 ∧ sgn n ≠ 10 := by decide
theorem un_hex : ∀ s : List UInt8, unhexL (hexL s) = (s, true)
  | [] => rfl
  | b :: s => by
    have hb : b.toNat < 256 := b.toNat_lt
    rw [show hexL (b :: s) = sgn (b.toNat / 16) :: sgn (b.toNat % 16) :: hexL s from rfl]
    unfold unhexL
    rw [un_hex s, (hlf_sgn (b.toNat / 16) (by omega)).1, (hlf_sgn (b.toNat % 16) (by omega)).1, if_neg (by omega), cond_true, Int.toNat_natCast, Int.toNat_natCast, show 16 * (b.toNat / 16) + b.toNat % 16 = b.toNat by omega, UInt8.ofNat_toNat]
theorem hex_no (s : List UInt8) : 32 ∉ hexL s ∧ 10 ∉ hexL s := by
  unfold hexL
  refine ⟨fun hm => ?_, fun hm => ?_⟩ <;>
  · obtain ⟨b, _, h⟩ := List.mem_flatMap.1 hm
    have hb : b.toNat < 256 := b.toNat_lt
    have q1 := hlf_sgn (b.toNat / 16) (by omega)
    have q2 := hlf_sgn (b.toNat % 16) (by omega)
    rcases List.mem_cons.1 h with h | h
    · first | exact q1.2.1 h.symm | exact q1.2.2 h.symm
    · have := List.mem_singleton.1 h
      first | exact q2.2.1 this.symm | exact q2.2.2 this.symm
end Go.Proofs.YtagjeabdcjcchaaGreatDoor.Ev
namespace Go.Proofs.YtagjeabdcjcchaaGreatDoor.Ev
open Go.RowKit
open Go.Proofs.YtagjeabdcjcchaaGreatDoor.Mem
set_option linter.unusedVariables false
set_option linter.unusedSimpArgs false
set_option maxRecDepth 100000
theorem rule_ok' {r : Rul} (h : ruleB r = true) : nameB r.name = true ∧ (r.op = 0 → r.ver = []) ∧ (¬ r.op = 0 → 1 ≤ r.op ∧ r.op ≤ 5 ∧ verB r.ver = true) := by
  unfold ruleB at h
  rw [Bool.and_eq_true] at h
  refine ⟨h.1, fun e => ?_, fun e => ?_⟩
  · have := h.2
    rw [decide_eq_true e, cond_true, decide_eq_true_eq] at this
    exact this
  · have := h.2
    rw [decide_eq_false e, cond_false, Bool.and_eq_true, Bool.and_eq_true, decide_eq_true_eq, decide_eq_true_eq] at this
    exact ⟨this.1.1, this.1.2, this.2⟩
theorem sign_no (o : Int) : 32 ∉ signL o ∧ 10 ∉ signL o := by
  unfold signL
  (repeat' split) <;> decide
def wsR (w : List UInt8) (r : Rul) : List (List UInt8) := if r.op = 0 then [w, r.name] else [w, r.name, signL r.op, r.ver]
theorem wsR_no {w : List UInt8} {r : Rul} (hw : 32 ∉ w ∧ 10 ∉ w) (h : ruleB r = true) : ∀ x ∈ wsR w r, 32 ∉ x ∧ 10 ∉ x := by
  obtain ⟨h1, h2, h3⟩ := rule_ok' h
  intro x hx
  unfold wsR at hx
  split at hx
  · simp only [List.mem_cons, List.not_mem_nil, or_false] at hx
    rcases hx with rfl | rfl
    · exact hw
    · exact name_no h1
  · rename_i e
    simp only [List.mem_cons, List.not_mem_nil, or_false] at hx
    rcases hx with rfl | rfl | rfl | rfl
    · exact hw
    · exact name_no h1
    · exact sign_no _
    · exact ver_no (h3 e).2.2
theorem wsE_no {x : Ent} (h : EntOk x) : ∀ w ∈ wsE x, 32 ∉ w ∧ 10 ∉ w := by
  have hp := path_no h.p
  have hm := h.m
  have ho := (get_oct x.mode.toNat (by omega)).2
  intro w hw
  unfold wsE at hw
  split at hw
  · simp only [List.mem_cons, List.not_mem_nil, or_false] at hw
    rcases hw with rfl | rfl | rfl
    · decide
    · exact ho
    · exact hp
  · split at hw
    · rename_i e
      simp only [List.mem_cons, List.not_mem_nil, or_false] at hw
      rcases hw with rfl | rfl | rfl
      · decide
      · exact hp
      · exact tar_no (h.l e).2
    · simp only [List.mem_cons, List.not_mem_nil, or_false] at hw
      rcases hw with rfl | rfl | rfl | rfl
      · split <;> decide
      · exact ho
      · exact hex_no _
      · exact hp
theorem line_no {l : List (List UInt8)} (h : ∀ x ∈ l, 32 ∉ x ∧ 10 ∉ x) : 10 ∉ Lib.join l [32] := fun hm => by
  rcases join_mem hm with h1 | ⟨w, hw, h1⟩
  · exact absurd h1 (by decide)
  · exact (h w hw).2 h1
theorem line_sp {l : List (List UInt8)} (h0 : l ≠ []) (h : ∀ x ∈ l, 32 ∉ x ∧ 10 ∉ x) : sp 32 (Lib.join l [32]) = l := sp_join h0 fun w hw => (h w hw).1
theorem opF_of : ∀ o : Nat, 1 ≤ o → o ≤ 5 → opF (signL (o : Int)) 5 1 = o := by
  intro o h1 h2
  rcases (show o = 1 ∨ o = 2 ∨ o = 3 ∨ o = 4 ∨ o = 5 by omega) with rfl | rfl | rfl | rfl | rfl <;> decide
theorem rdRule_of {w : List UInt8} {r : Rul} (h : ruleB r = true) : rdRule ((wsR w r).drop 1) = (r, true) := by
  obtain ⟨h1, h2, h3⟩ := rule_ok' h
  unfold wsR
  split
  · rename_i e
    have h4 := h2 e
    cases r with
    | mk a b c =>
      dsimp only at e h4
      subst e h4
      rfl
  · rename_i e
    obtain ⟨h4, h5, h6⟩ := h3 e
    obtain ⟨o, ho⟩ : ∃ o : Nat, r.op = o := ⟨r.op.toNat, by omega⟩
    have h7 := opF_of o (by omega) (by omega)
    cases r with
    | mk a b c =>
      dsimp only at *
      subst ho
      unfold rdRule
      rw [if_neg (by simp)]
      rw [if_pos ⟨rfl, by show ¬ opF (signL (o : Int)) 5 1 = 0; omega⟩]
      show (Rul.mk a ((opF (signL (o : Int)) 5 1 : Nat) : Int) c, true) = _
      rw [h7]
theorem wsR_hd (w : List UInt8) (r : Rul) : (wsR w r).getD 0 [] = w ∧ wsR w r ≠ [] := by
  unfold wsR
  split <;> exact ⟨rfl, by simp⟩
theorem lnR_ws (w : List UInt8) (r : Rul) : lnR w r = Lib.join (wsR w r) [32] := rfl
theorem read_nd {r : Rul} (h : ruleB r = true) : readM (lnR wNeeds r) = .nd r := by
  have hs : sp 32 (lnR wNeeds r) = wsR wNeeds r := by rw [lnR_ws]; exact line_sp (wsR_hd _ _).2 (wsR_no (by decide) h)
  unfold readM
  rw [hs, (wsR_hd _ _).1, rdRule_of h]
  rw [if_pos (.inl rfl), if_neg (by simp), if_pos rfl]
theorem read_cl {r : Rul} (h : ruleB r = true) : readM (lnR wClash r) = .cl r := by
  have hs : sp 32 (lnR wClash r) = wsR wClash r := by rw [lnR_ws]; exact line_sp (wsR_hd _ _).2 (wsR_no (by decide) h)
  unfold readM
  rw [hs, (wsR_hd _ _).1, rdRule_of h]
  rw [if_pos (.inr rfl), if_neg (by simp), if_neg (by decide)]
theorem thing_of {x : Ent} (h : EntOk x) : thingM (wsE x) = (x, true) ∧ ((wsE x).getD 0 [] = wFile ∨ (wsE x).getD 0 [] = wConf ∨ (wsE x).getD 0 [] = wDir ∨ (wsE x).getD 0 [] = wLink) := by
  have hm := h.m
  have ho := mode_oct (n := x.mode.toNat) (by omega)
  have hk := h.k
  have hs := h.s
  have hc : ((x.mode.toNat : Nat) : Int) = x.mode := by omega
  cases x with
  | mk k md sm pt tg =>
    dsimp only at *
    unfold wsE
    dsimp only
    rcases hk with rfl | rfl | rfl | rfl
    · have ht : tg = [] := h.t (by show ¬ (1 : Int) = 3; decide)
      subst ht
      rw [if_neg (by decide), if_neg (by decide), if_neg (by decide)]
      refine ⟨?_, .inl rfl⟩
      unfold thingM
      rw [if_neg (show ¬ [wFile, octD 4 md.toNat, hexL sm, pt].getD 0 [] = wLink from by show ¬ wFile = wLink; decide), if_neg (show ¬ [wFile, octD 4 md.toNat, hexL sm, pt].getD 0 [] = wDir from by show ¬ wFile = wDir; decide), if_neg (by simp)]
      show (Ent.mk (if wFile = wConf then 5 else 1) ((modeM (octD 4 md.toNat)).1 : Int) (unhexL (hexL sm)).1 pt [], (modeM (octD 4 md.toNat)).2 && (unhexL (hexL sm)).2) = _
      rw [ho, un_hex, if_neg (by decide), hc]
      rfl
    · have ht : tg = [] := h.t (by show ¬ (5 : Int) = 3; decide)
      subst ht
      rw [if_neg (by decide), if_neg (by decide), if_pos rfl]
      refine ⟨?_, .inr (.inl rfl)⟩
      unfold thingM
      rw [if_neg (show ¬ [wConf, octD 4 md.toNat, hexL sm, pt].getD 0 [] = wLink from by show ¬ wConf = wLink; decide), if_neg (show ¬ [wConf, octD 4 md.toNat, hexL sm, pt].getD 0 [] = wDir from by show ¬ wConf = wDir; decide), if_neg (by simp)]
      show (Ent.mk (if wConf = wConf then 5 else 1) ((modeM (octD 4 md.toNat)).1 : Int) (unhexL (hexL sm)).1 pt [], (modeM (octD 4 md.toNat)).2 && (unhexL (hexL sm)).2) = _
      rw [ho, un_hex, if_pos rfl, hc]
      rfl
    · have ht : tg = [] := h.t (by show ¬ (2 : Int) = 3; decide)
      have hz : sm = [] := List.length_eq_zero_iff.1 (by have : sizeM 2 = 0 := by decide
                                                         omega)
      subst ht hz
      rw [if_pos rfl]
      refine ⟨?_, .inr (.inr (.inl rfl))⟩
      unfold thingM
      rw [if_neg (show ¬ [wDir, octD 4 md.toNat, pt].getD 0 [] = wLink from by show ¬ wDir = wLink; decide), if_pos (show [wDir, octD 4 md.toNat, pt].getD 0 [] = wDir from rfl), if_neg (by simp)]
      show (Ent.mk 2 ((modeM (octD 4 md.toNat)).1 : Int) [] pt [], (modeM (octD 4 md.toNat)).2) = _
      rw [ho, hc]
    · have hz : sm = [] := List.length_eq_zero_iff.1 (by have : sizeM 3 = 0 := by decide
                                                         omega)
      have hq : md = 0 := (h.l rfl).1
      subst hz hq
      rw [if_neg (by decide), if_pos rfl]
      refine ⟨?_, .inr (.inr (.inr rfl))⟩
      unfold thingM
      rw [if_pos (show [wLink, pt, tg].getD 0 [] = wLink from rfl), if_neg (by simp)]
      rfl
theorem wsE_ne (x : Ent) : wsE x ≠ [] := by
  unfold wsE
  split
  · simp
  · split <;> simp
theorem read_th {x : Ent} (h : EntOk x) : readM (lnE x) = .th x := by
  have hs : sp 32 (lnE x) = wsE x := line_sp (wsE_ne x) (wsE_no h)
  obtain ⟨h1, h2⟩ := thing_of h
  unfold readM
  rw [hs, h1]
  have h3 : ¬ ((wsE x).getD 0 [] = wNeeds ∨ (wsE x).getD 0 [] = wClash) := by
    rintro (e | e) <;> rw [e] at h2 <;> exact absurd h2 (by decide)
  rw [if_neg h3, if_pos ⟨h2, rfl⟩]
theorem goM_th' : ∀ (l : List Ent) (m : Man) (last : Int), (∀ x ∈ l, EntOk x) → last ≤ 3 → goM (l.map lnE) m last = (⟨m.name, m.ver, m.needs, m.clashes, m.ents ++ l⟩, true)
  | [], m, last, h, hl => by simp [goM]
  | x :: l, m, last, h, hl => by
    rw [List.map_cons, goM_th (read_th (h x (by simp))), if_neg (by omega), goM_th' l _ 3 (fun y hy => h y (by simp [hy])) (by omega)]
    simp
theorem goM_cl' : ∀ (l : List Rul) (r : List Ent) (m : Man) (last : Int), (∀ x ∈ l, ruleB x = true) → (∀ x ∈ r, EntOk x) → last ≤ 2 → goM (l.map (lnR wClash) ++ r.map lnE) m last = (⟨m.name, m.ver, m.needs, m.clashes ++ l, m.ents ++ r⟩, true)
  | [], r, m, last, h, h', hl => by rw [List.map_nil, List.nil_append, goM_th' r m last h' (by omega)]; simp
  | x :: l, r, m, last, h, h', hl => by
    rw [List.map_cons, List.cons_append, goM_cl (read_cl (h x (by simp))), if_neg (by omega), goM_cl' l r _ 2 (fun y hy => h y (by simp [hy])) h' (by omega)]
    simp
theorem goM_nd' : ∀ (l q : List Rul) (r : List Ent) (m : Man) (last : Int), (∀ x ∈ l, ruleB x = true) → (∀ x ∈ q, ruleB x = true) → (∀ x ∈ r, EntOk x) → last ≤ 1 → goM (l.map (lnR wNeeds) ++ q.map (lnR wClash) ++ r.map lnE) m last = (⟨m.name, m.ver, m.needs ++ l, m.clashes ++ q, m.ents ++ r⟩, true)
  | [], q, r, m, last, h, h', h'', hl => by rw [List.map_nil, List.nil_append, goM_cl' q r m last h' h'' (by omega)]; simp
  | x :: l, q, r, m, last, h, h', h'', hl => by
    rw [List.map_cons, List.cons_append, List.cons_append, goM_nd (read_nd (h x (by simp))), if_neg (by omega), goM_nd' l q r _ 1 (fun y hy => h y (by simp [hy])) h' h'' (by omega)]
    simp
theorem headM_of {w s : List UInt8} (hw : 32 ∉ w ∧ 10 ∉ w) (hs : 32 ∉ s ∧ 10 ∉ s) : headM (Lib.join [w, s] [32]) w = (s, true) := by
  have e : sp 32 (Lib.join [w, s] [32]) = [w, s] := line_sp (by simp) (by simp; exact ⟨hw, hs⟩)
  unfold headM
  rw [e]
  exact if_neg (by simp)
theorem lines_no {m : Man} (h : ManOk m) : ∀ x ∈ linesM m, 10 ∉ x := by
  intro x hx
  unfold linesM at hx
  simp only [List.mem_cons, List.mem_append, List.mem_map] at hx
  rcases hx with rfl | rfl | rfl | ((⟨r, hr, rfl⟩ | ⟨r, hr, rfl⟩) | ⟨y, hy, rfl⟩)
  · decide
  · exact line_no (by simp; exact ⟨by decide, name_no h.n⟩)
  · exact line_no (by simp; exact ⟨by decide, ver_no h.v⟩)
  · exact line_no (wsR_no (by decide) (h.ns r hr))
  · exact line_no (wsR_no (by decide) (h.cs r hr))
  · exact line_no (wsE_no (h.ents y hy))
theorem readAllM_of {m : Man} (h : ManOk m) : readAllM (linesM m) = (m, true) := by
  unfold readAllM linesM
  rw [if_neg (by simp)]
  show (if (headM (Lib.join [wName, m.name] [32]) wName).2 = false ∨ (headM (Lib.join [wVers, m.ver] [32]) wVers).2 = false then (dM, false) else goM (m.needs.map (lnR wNeeds) ++ m.clashes.map (lnR wClash) ++ m.ents.map lnE) ⟨(headM (Lib.join [wName, m.name] [32]) wName).1, (headM (Lib.join [wVers, m.ver] [32]) wVers).1, [], [], []⟩ 1) = _
  rw [headM_of (by decide) (name_no h.n), headM_of (by decide) (ver_no h.v), if_neg (by simp), goM_nd' _ _ _ _ _ h.ns h.cs h.ents (by omega)]
  rfl
theorem textM_len {m : Man} (hm : ManOk m) : (textM m).length ≤ 40000 := by
  have hn := name_len hm.n
  have hv := ver_len hm.v
  have ln : (lineL [wName, m.name]).length ≤ 40 := by unfold lineL; rw [join2]; simp [wName]; omega
  have lv : (lineL [wVers, m.ver]).length ≤ 40 := by unfold lineL; rw [join2]; simp [wVers]; omega
  have rn := rulesL_len wNeeds m.needs fun r hr => rule_len (hm.ns r hr)
  have rc := rulesL_len wClash m.clashes fun r hr => rule_len (hm.cs r hr)
  have rn2 : (rulesL wNeeds m.needs).length ≤ 16 * 60 := Nat.le_trans rn (Nat.mul_le_mul hm.nl (by decide))
  have rc2 : (rulesL wClash m.clashes).length ≤ 16 * 62 := Nat.le_trans rc (Nat.mul_le_mul hm.cl (by decide))
  have el : (entsL m.ents).length ≤ 64 * 500 := Nat.le_trans (entsL_len m.ents hm.ents) (Nat.mul_le_mul hm.el (by decide))
  unfold textM preL
  simp only [List.length_append, List.length_cons]
  have : wHead.length = 9 := rfl
  omega
theorem parseM_text {m : Man} (h : checkM m = 0) : parseM (textM m) = (m, 0) := by
  have hm := ManOk.of h
  have hl := textM_len hm
  obtain ⟨s1, s2⟩ := suf_app (Lib.join (linesM m) [10]) 10
  have e : sp 10 (Lib.join (linesM m) [10]) = linesM m := sp_join (by simp [linesM]) (lines_no hm)
  unfold parseM
  rw [if_neg (by omega), textM_join, s1, s2, e, readAllM_of hm, if_neg (by simp), if_neg (by simp), if_neg (by simp [h])]
/-! ### Lines -/
end Go.Proofs.YtagjeabdcjcchaaGreatDoor.Ev
