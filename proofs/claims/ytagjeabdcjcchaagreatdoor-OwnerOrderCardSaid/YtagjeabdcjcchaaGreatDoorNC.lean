/- Manifests: whether one may be, its text. -/
import Derived.Test.YtagjeabdcjcchaaGreatDoorNB
set_option linter.all false
namespace Go.Proofs.YtagjeabdcjcchaaGreatDoor.Ev
open Go.RowKit
open Go.Proofs.YtagjeabdcjcchaaGreatDoor.Mem
set_option linter.unusedVariables false
set_option linter.unusedSimpArgs false
set_option maxRecDepth 100000
structure Man.Fit (m : Man) : Prop where
  n : m.name.length ≤ 140737488355328
  v : m.ver.length ≤ 140737488355328
  nl : m.needs.length ≤ 100000000000000
  cl : m.clashes.length ≤ 100000000000000
  el : m.ents.length ≤ 100000000000000
  ns : ∀ r ∈ m.needs, r.name.length ≤ 140737488355328 ∧ r.ver.length ≤ 140737488355328
  cs : ∀ r ∈ m.clashes, r.name.length ≤ 140737488355328 ∧ r.ver.length ≤ 140737488355328
  es : ∀ x ∈ m.ents, x.path.length ≤ 140737488355328 ∧ x.target.length ≤ 140737488355328 ∧ x.sum.length ≤ 140737488355328
def checkM (m : Man) : Int :=
  if nameB m.name = false ∨ verB m.ver = false then 1 else if 16 < m.needs.length ∨ 16 < m.clashes.length ∨ 64 < m.ents.length then 3 else
  if m.needs.all ruleB = false ∨ m.clashes.all ruleB = false then 1 else entsM m.ents
set_option maxHeartbeats 4000000 in
theorem check_ok (m : Man) (hf : m.Fit) : Spec Tryz.prog LL 57 [eMan m] (.n .i64 (checkM m)) := by
  refine spec_of (C := ⟨Tryz.prog, LL, EE, []⟩) (rl := [.n .i64 (checkM m)]) (rs := [.tmp 2]) CCx LLs Tryz.func57 rfl (by kernel_rfl) rfl (by kernel_rfl) (Nat.le_of_ble_eq_true rfl) (fun i => rfl) (fun i => rfl) rfl (by decide) ?_
  refine gf ?_
  have h3 := hf.nl
  have h4 := hf.cl
  have h5 := hf.el
  have t1 : nameB m.name = false ∨ verB m.ver = false → 1 = checkM m := fun h => by rw [checkM, if_pos h]
  have t2 : ¬ (nameB m.name = false ∨ verB m.ver = false) → (16 < m.needs.length ∨ 16 < m.clashes.length ∨ 64 < m.ents.length) → 3 = checkM m := fun h h' => by rw [checkM, if_neg h, if_pos h']
  have t3 : ¬ (nameB m.name = false ∨ verB m.ver = false) → ¬ (16 < m.needs.length ∨ 16 < m.clashes.length ∨ 64 < m.ents.length) → (m.needs.all ruleB = false ∨ m.clashes.all ruleB = false) → 1 = checkM m := fun h h' h'' => by rw [checkM, if_neg h, if_neg h', if_pos h'']
  have t4 : ¬ (nameB m.name = false ∨ verB m.ver = false) → ¬ (16 < m.needs.length ∨ 16 < m.clashes.length ∨ 64 < m.ents.length) → ¬ (m.needs.all ruleB = false ∨ m.clashes.all ruleB = false) → entsM m.ents = checkM m := fun h h' h'' => by rw [checkM, if_neg h, if_neg h', if_neg h'']
  repeat' (first | exact True.intro | (exact t1 (.inl (by assumption))) | (exact t1 (.inr (by assumption))) | (exact t2 (fun h => h.elim (by assumption) (by assumption)) (by omega)) | (exact t3 (fun h => h.elim (by assumption) (by assumption)) (by omega) (.inl (by assumption))) | (exact t3 (fun h => h.elim (by assumption) (by assumption)) (by omega) (.inr (by assumption))) | (exact t4 (fun h => h.elim (by assumption) (by assumption)) (by omega) (fun h => h.elim (by assumption) (by assumption))) | (exfalso; omega) | (exfalso; contradiction) | refine cl (name_ok m.name hf.n) (gf ?_) | refine cl (ver_ok m.ver hf.v) (gf ?_) | refine cl (rules_ok m.needs hf.nl hf.ns) (gf ?_) | refine cl (rules_ok m.clashes hf.cl hf.cs) (gf ?_) | refine cl (ents_ok m.ents hf.el hf.es) (gf ?_) | refine br (fun h => ?_) (fun h => ?_) | refine gf ?_)
def lineL (l : List (List UInt8)) : List UInt8 := Lib.join l [32] ++ [10]
theorem line_ok (l : List (List UInt8)) (h : l.length ≤ 140737488355328) (h2 : (Lib.join l [32]).length ≤ 140737488355000) : Spec Tryz.prog LL 58 [.sl 1 (List UInt8) [] l .s] (.s (lineL l)) := by
  refine spec_of (C := ⟨Tryz.prog, LL, EE, []⟩) (rl := [.s (lineL l)]) (rs := [.tmp 2]) CCx LLs Tryz.func58 rfl (by kernel_rfl) rfl (by kernel_rfl) (Nat.le_of_ble_eq_true rfl) (fun i => rfl) (fun i => rfl) rfl (by decide) ?_
  refine gf ?_
  refine cl (join_ok l [32] (by omega) (by omega)) ?_
  refine gf ?_
  trivial
def ruleL (w : List UInt8) (r : Rul) : List UInt8 := if r.op = 0 then lineL [w, r.name] else lineL [w, r.name, signL r.op, r.ver]
def rulesL (w : List UInt8) (l : List Rul) : List UInt8 := l.flatMap (ruleL w)
theorem join2 (a b : List UInt8) : Lib.join [a, b] [32] = a ++ 32 :: b := by simp [Lib.join]
theorem join3 (a b c : List UInt8) : Lib.join [a, b, c] [32] = a ++ 32 :: b ++ 32 :: c := by simp [Lib.join]
theorem join4 (a b c d : List UInt8) : Lib.join [a, b, c, d] [32] = a ++ 32 :: b ++ 32 :: c ++ 32 :: d := by simp [Lib.join]
theorem ruleL_len (w : List UInt8) (r : Rul) : (ruleL w r).length ≤ w.length + r.name.length + r.ver.length + 7 := by
  unfold ruleL lineL
  split
  · rw [join2]; simp; omega
  · rw [join4]
    have : (signL r.op).length ≤ 2 := by unfold signL; (repeat' split) <;> simp
    simp; omega
/-- Rules that may be have short lines. -/
theorem name_len {s : List UInt8} (h : nameB s = true) : s.length ≤ 24 := by simp [nameB] at h; exact h.1.2
theorem ver_len {s : List UInt8} (h : verB s = true) : s.length ≤ 24 := by simp [verB] at h; exact h.1.2
theorem rule_len {r : Rul} (h : ruleB r = true) : r.name.length ≤ 24 ∧ r.ver.length ≤ 24 := by
  unfold ruleB at h
  rw [Bool.and_eq_true] at h
  refine ⟨name_len h.1, ?_⟩
  have h2 := h.2
  by_cases e : r.op = 0
  · simp [e] at h2; simp [h2]
  · simp [e] at h2; exact ver_len h2.2
theorem rulesL_len (w : List UInt8) (l : List Rul) (h : ∀ r ∈ l, r.name.length ≤ 24 ∧ r.ver.length ≤ 24) : (rulesL w l).length ≤ l.length * (w.length + 55) := by
  induction l with
  | nil => simp [rulesL]
  | cons r l ih =>
    have h1 := ruleL_len w r
    have h2 := h r (by simp)
    have h3 := ih fun x hx => h x (by simp [hx])
    simp only [rulesL, List.flatMap_cons, List.length_append, List.length_cons] at h3 ⊢
    rw [Nat.add_mul]
    omega
theorem rulesL_ok (w : List UInt8) (l : List Rul) (hw : w.length ≤ 100) (hl : l.length ≤ 16) (h : ∀ r ∈ l, r.name.length ≤ 24 ∧ r.ver.length ≤ 24) : Spec Tryz.prog LL 59 [.s w, .sl 3 Rul dR l eRul] (.s (rulesL w l)) := by
  refine spec_of (C := ⟨Tryz.prog, LL, EE, []⟩) (rl := [.s (rulesL w l)]) (rs := [.tmp 4]) CCx LLs Tryz.func59 rfl (by kernel_rfl) rfl (by kernel_rfl) (Nat.le_of_ble_eq_true rfl) (fun i => rfl) (fun i => rfl) rfl (by decide) ?_
  refine gf ?_
  refine lp_hd [0, 8, 9] [] (fun i : Nat => [(5, .s (rulesL w (l.take i))), (10, .n .i64 (i : Int))]) (fun i : Nat => []) (fun i : Nat => i ≤ l.length) (fun i : Nat => l.length - i) (0) id (id) (Nat.zero_le _) (fits_of (gf ?_) (gf ?_) (gf ?_) (gf ?_) (gf ?_)) ?_
  · first | exact True.intro | exact ⟨rfl, rfl⟩ | exact ⟨rfl, rfl, rfl⟩ | rfl | exact rowc (List.map_id _) | trivial
  · first | exact True.intro | exact ⟨rfl, rfl⟩ | exact ⟨rfl, rfl, rfl⟩ | rfl | exact rowc (List.map_id _) | trivial
  · first | exact True.intro | exact ⟨rfl, rfl⟩ | exact ⟨rfl, rfl, rfl⟩ | rfl | exact rowc (List.map_id _) | trivial
  · first | exact True.intro | exact ⟨rfl, rfl⟩ | exact ⟨rfl, rfl, rfl⟩ | rfl | exact rowc (List.map_id _) | trivial
  · first | exact True.intro | exact ⟨rfl, rfl⟩ | exact ⟨rfl, rfl, rfl⟩ | rfl | exact rowc (List.map_id _) | trivial
  rintro i hi
  have hlen := rulesL_len w (l.take i) fun r hr => h r (List.mem_of_mem_take hr)
  have hlen2 : (l.take i).length * (w.length + 55) ≤ 16 * 155 := Nat.mul_le_mul (by rw [List.length_take]; omega) (by omega)
  try refine gf ?_
  refine br (fun e => ?_) (fun e => ?_)
  · have htk : rulesL w (l.take (i + 1)) = rulesL w (l.take i) ++ ruleL w (l.getD i dR) := by
      rw [take_at l i dR (by omega), rulesL, List.flatMap_append]; simp [rulesL]
    obtain ⟨q1, q2⟩ := h (l.getD i dR) (getD_mem (by omega))
    try refine gf ?_
    generalize l.getD i dR = x at q1 q2 htk ⊢
    have hrl := ruleL_len w x
    refine br (fun c => ?_) (fun c => ?_)
    · try refine gf ?_
      have hr : ruleL w x = lineL [w, x.name] := if_pos c
      refine .inr ?_
      refine cl (line_ok [w, x.name] (by simp) (by rw [join2]; simp; omega)) ?_
      refine gf ?_
      rw [← hr]
      refine ⟨by omega, ?_⟩
      refine ⟨i + 1, (by omega), (by omega), fits_of (gf ?_) (gf ?_) (gf ?_) (gf ?_) (gf ?_)⟩
      · first | exact True.intro | exact ⟨rfl, rfl⟩ | exact ⟨rfl, rfl, rfl⟩ | rfl | exact rowc (List.map_id _) | trivial
      · (rw [htk]; exact ⟨rfl, rfl⟩)
      · first | exact True.intro | exact ⟨rfl, rfl⟩ | exact ⟨rfl, rfl, rfl⟩ | rfl | exact rowc (List.map_id _) | trivial
      · first | exact True.intro | exact ⟨rfl, rfl⟩ | exact ⟨rfl, rfl, rfl⟩ | rfl | exact rowc (List.map_id _) | trivial
      · first | exact True.intro | exact ⟨rfl, rfl⟩ | exact ⟨rfl, rfl, rfl⟩ | rfl | exact rowc (List.map_id _) | trivial
    · try refine gf ?_
      have hr : ruleL w x = lineL [w, x.name, signL x.op, x.ver] := if_neg c
      have hsg : (signL x.op).length ≤ 2 := by unfold signL; (repeat' split) <;> simp
      refine cd (msign_ok x.op) ?_
      refine gf ?_
      refine .inr ?_
      refine cd (line_ok [w, x.name, signL x.op, x.ver] (by simp) (by rw [join4]; simp; omega)) ?_
      refine gf ?_
      rw [← hr]
      refine ⟨by omega, ?_⟩
      refine ⟨i + 1, (by omega), (by omega), fits_of (gf ?_) (gf ?_) (gf ?_) (gf ?_) (gf ?_)⟩
      · first | exact True.intro | exact ⟨rfl, rfl⟩ | exact ⟨rfl, rfl, rfl⟩ | rfl | exact rowc (List.map_id _) | trivial
      · (rw [htk]; exact ⟨rfl, rfl⟩)
      · first | exact True.intro | exact ⟨rfl, rfl⟩ | exact ⟨rfl, rfl, rfl⟩ | rfl | exact rowc (List.map_id _) | trivial
      · first | exact True.intro | exact ⟨rfl, rfl⟩ | exact ⟨rfl, rfl, rfl⟩ | rfl | exact rowc (List.map_id _) | trivial
      · first | exact True.intro | exact ⟨rfl, rfl⟩ | exact ⟨rfl, rfl, rfl⟩ | rfl | exact rowc (List.map_id _) | trivial
  · try refine gf ?_
    rw [List.take_of_length_le (by omega)]
end Go.Proofs.YtagjeabdcjcchaaGreatDoor.Ev
namespace Go.Proofs.YtagjeabdcjcchaaGreatDoor.Ev
open Go.RowKit
open Go.Proofs.YtagjeabdcjcchaaGreatDoor.Mem
set_option linter.unusedVariables false
set_option linter.unusedSimpArgs false
set_option maxRecDepth 100000
def wDir : List UInt8 := [100, 105, 114]
def wLink : List UInt8 := [108, 105, 110, 107]
def wConf : List UInt8 := [99, 111, 110, 102]
def wFile : List UInt8 := [102, 105, 108, 101]
def wName : List UInt8 := [110, 97, 109, 101]
def wVers : List UInt8 := [118, 101, 114, 115, 105, 111, 110]
def wNeeds : List UInt8 := [110, 101, 101, 100, 115]
def wClash : List UInt8 := [99, 108, 97, 115, 104, 101, 115]
def wHead : List UInt8 := [104, 111, 108, 100, 97, 108, 108, 32, 49]
def entL (x : Ent) : List UInt8 :=
  if x.kind = 2 then lineL [wDir, octD 4 x.mode.toNat, x.path] else if x.kind = 3 then lineL [wLink, x.path, x.target] else
  lineL [if x.kind = 5 then wConf else wFile, octD 4 x.mode.toNat, hexL x.sum, x.path]
def entsL (l : List Ent) : List UInt8 := l.flatMap entL
/-- An entry that may be. -/
structure EntOk (x : Ent) : Prop where
  m : 0 ≤ x.mode ∧ x.mode ≤ 4095
  k : knd x.kind
  s : (x.sum.length : Int) = sizeM x.kind
  p : (partsM x.path).2 = 0
  r : resB x.path = false
  l : x.kind = 3 → x.mode = 0 ∧ tarB x.target = true
  t : ¬ x.kind = 3 → x.target = []
theorem EntOk.of {x : Ent} (h : entryM x = 0) : EntOk x := by
  unfold entryM at h
  by_cases h1 : ¬ (partsM x.path).2 = 0
  · rw [if_pos h1] at h; exact absurd h h1
  rw [if_neg h1] at h
  by_cases h2 : resB x.path = true
  · rw [if_pos h2] at h; cases h
  rw [if_neg h2] at h
  by_cases h3 : ¬ knd x.kind
  · rw [if_pos h3] at h; cases h
  rw [if_neg h3] at h
  by_cases h4 : x.mode < 0 ∨ 4095 < x.mode ∨ (x.kind = 3 ∧ ¬ x.mode = 0) ∨ ¬ (x.sum.length : Int) = sizeM x.kind
  · rw [if_pos h4] at h; cases h
  rw [if_neg h4] at h
  by_cases h5 : x.kind = 3 ∧ tarB x.target = false
  · rw [if_pos h5] at h; cases h
  rw [if_neg h5] at h
  by_cases h6 : ¬ x.kind = 3 ∧ ¬ x.target = []
  · rw [if_pos h6] at h; cases h
  refine ⟨by omega, Decidable.not_not.1 h3, by omega, Decidable.not_not.1 h1, by simpa using h2, fun hk => ⟨by omega, ?_⟩, fun hk => ?_⟩
  · simpa using fun e => h5 ⟨hk, e⟩
  · exact Decidable.not_not.1 fun e => h6 ⟨hk, e⟩
theorem EntOk.sums {x : Ent} (h : EntOk x) : x.sum.length ≤ 32 := by
  have h1 := h.s
  unfold sizeM at h1
  split at h1 <;> omega
theorem EntOk.tars {x : Ent} (h : EntOk x) : x.target.length ≤ 200 := by
  by_cases hk : x.kind = 3
  · have := (h.l hk).2
    simp [tarB] at this
    exact this.1.2
  · rw [h.t hk]; simp
theorem entL_len {x : Ent} (h : EntOk x) : (entL x).length ≤ 500 := by
  have h1 := h.sums
  have h2 := h.tars
  have h3 := parts_len h.p
  unfold entL lineL
  split
  · rw [join3]; simp [octD_len, wDir]; omega
  · split
    · rw [join3]; simp [wLink]; omega
    · rw [join4]
      have : (if x.kind = 5 then wConf else wFile).length = 4 := by split <;> rfl
      simp [octD_len, hexL_len, this]; omega
theorem entL_ok (x : Ent) (hx : EntOk x) : Spec Tryz.prog LL 60 [eEnt x] (.s (entL x)) := by
  refine spec_of (C := ⟨Tryz.prog, LL, EE, []⟩) (rl := [.s (entL x)]) (rs := [.tmp 2]) CCx LLs Tryz.func60 rfl (by kernel_rfl) rfl (by kernel_rfl) (Nat.le_of_ble_eq_true rfl) (fun i => rfl) (fun i => rfl) rfl (by decide) ?_
  refine gf ?_
  have h1 := hx.sums
  have h2 := hx.tars
  have h3 := parts_len hx.p
  have hm := hx.m
  obtain ⟨n, hn⟩ : ∃ n : Nat, x.mode = n := ⟨x.mode.toNat, by omega⟩
  rw [hn]
  refine cl (octal_ok n 4 (by omega) (by omega)) ?_
  refine gf ?_
  have ho : octD 4 x.mode.toNat = octD 4 n := by rw [hn]; rfl
  refine br (fun a => ?_) (fun a => ?_)
  · try refine gf ?_
    rw [show entL x = lineL [wDir, octD 4 n, x.path] by rw [entL, if_pos a, ho]]
    refine .inr ?_
    refine cl (line_ok [wDir, octD 4 n, x.path] (by simp) (by rw [join3]; simp [octD_len, wDir]; omega)) ?_
    refine gf ?_
    trivial
  · try refine gf ?_
    refine br (fun b => ?_) (fun b => ?_)
    · try refine gf ?_
      rw [show entL x = lineL [wLink, x.path, x.target] by rw [entL, if_neg a, if_pos b]]
      refine .inr ?_
      refine cl (line_ok [wLink, x.path, x.target] (by simp) (by rw [join3]; simp [wLink]; omega)) ?_
      refine gf ?_
      trivial
    · try refine gf ?_
      refine br (fun c => ?_) (fun c => ?_)
      · try refine gf ?_
        rw [show entL x = lineL [wConf, octD 4 n, hexL x.sum, x.path] by rw [entL, if_neg a, if_neg b, if_pos c, ho]]
        refine cd (hex_ok x.sum (by omega)) ?_
        refine gf ?_
        refine .inr ?_
        refine cd (line_ok [wConf, octD 4 n, hexL x.sum, x.path] (by simp) (by rw [join4]; simp [octD_len, hexL_len, wConf]; omega)) ?_
        refine gf ?_
        trivial
      · try refine gf ?_
        rw [show entL x = lineL [wFile, octD 4 n, hexL x.sum, x.path] by rw [entL, if_neg a, if_neg b, if_neg c, ho]]
        refine cd (hex_ok x.sum (by omega)) ?_
        refine gf ?_
        refine .inr ?_
        refine cd (line_ok [wFile, octD 4 n, hexL x.sum, x.path] (by simp) (by rw [join4]; simp [octD_len, hexL_len, wFile]; omega)) ?_
        refine gf ?_
        trivial
end Go.Proofs.YtagjeabdcjcchaaGreatDoor.Ev
namespace Go.Proofs.YtagjeabdcjcchaaGreatDoor.Ev
open Go.RowKit
open Go.Proofs.YtagjeabdcjcchaaGreatDoor.Mem
set_option linter.unusedVariables false
set_option linter.unusedSimpArgs false
set_option maxRecDepth 100000
theorem entsM_all {l : List Ent} (h : entsM l = 0) : ∀ j, j < l.length → entF l j = 0 := by
  intro j
  induction j using Nat.strongRecOn with
  | ind j ih =>
    intro hj
    by_cases e : entF l j = 0
    · exact e
    · have := entsM_at hj (fun k hk => ih k hk (by omega)) e
      rw [h] at this
      exact this.symm
theorem entF_entry {l : List Ent} {j : Nat} (h : entF l j = 0) : entryM (l.getD j dE) = 0 := by
  unfold entF at h
  split at h
  · rename_i h1; exact absurd h h1
  · rename_i h1; exact Decidable.not_not.1 h1
/-- A manifest that may be. -/
structure ManOk (m : Man) : Prop where
  n : nameB m.name = true
  v : verB m.ver = true
  nl : m.needs.length ≤ 16
  cl : m.clashes.length ≤ 16
  el : m.ents.length ≤ 64
  ns : ∀ r ∈ m.needs, ruleB r = true
  cs : ∀ r ∈ m.clashes, ruleB r = true
  es : entsM m.ents = 0
theorem ManOk.of {m : Man} (h : checkM m = 0) : ManOk m := by
  unfold checkM at h
  split at h
  · cases h
  · rename_i h1
    split at h
    · cases h
    · rename_i h2
      split at h
      · cases h
      · rename_i h3
        simp only [not_or, Bool.not_eq_false, List.all_eq_true] at h1 h3
        exact ⟨h1.1, h1.2, by omega, by omega, by omega, h3.1, h3.2, h⟩
theorem ManOk.ents {m : Man} (h : ManOk m) : ∀ x ∈ m.ents, EntOk x := fun x hx => by
  obtain ⟨j, hj, rfl⟩ := List.getElem_of_mem hx
  have := EntOk.of (entF_entry (entsM_all h.es j hj))
  rwa [List.getD_eq_getElem?_getD, List.getElem?_eq_getElem hj] at this
def preL (m : Man) : List UInt8 := wHead ++ 10 :: (lineL [wName, m.name] ++ lineL [wVers, m.ver])
def textM (m : Man) : List UInt8 := preL m ++ rulesL wNeeds m.needs ++ rulesL wClash m.clashes ++ entsL m.ents
def printM (m : Man) : List UInt8 × Int := if ¬ checkM m = 0 then ([], checkM m) else (textM m, 0)
theorem entsL_len (l : List Ent) (h : ∀ x ∈ l, EntOk x) : (entsL l).length ≤ l.length * 500 := by
  induction l with
  | nil => simp [entsL]
  | cons r l ih =>
    have h1 := entL_len (h r (by simp))
    have h3 := ih fun x hx => h x (by simp [hx])
    simp only [entsL, List.flatMap_cons, List.length_append, List.length_cons] at h3 ⊢
    rw [Nat.add_mul]
    omega
theorem print_ok (m : Man) (hf : m.Fit) : Spec Tryz.prog LL 28 [eMan m] (.tp [.s (printM m).1, .n .i64 (printM m).2]) := by
  refine spec_of (C := ⟨Tryz.prog, LL, EE, []⟩) (rl := [.s (printM m).1, .n .i64 (printM m).2]) (rs := [.tmp 2, .tmp 3]) CCx LLs Tryz.func28 rfl (by kernel_rfl) rfl (by kernel_rfl) (Nat.le_of_ble_eq_true rfl) (fun i => rfl) (fun i => rfl) rfl (by decide) ?_
  refine gf ?_
  refine cl (check_ok m hf) ?_
  refine gf ?_
  refine br (fun a => ?_) (fun a => ?_)
  · try refine gf ?_
    rw [show printM m = ([], checkM m) from if_pos a]
    exact ⟨rfl, rfl⟩
  · have hm := ManOk.of (Decidable.not_not.1 a)
    rw [show printM m = (textM m, 0) from if_neg a]
    have hn := name_len hm.n
    have hv := ver_len hm.v
    try refine gf ?_
    have ln : (lineL [wName, m.name]).length ≤ 40 := by unfold lineL; rw [join2]; simp [wName]; omega
    have lv : (lineL [wVers, m.ver]).length ≤ 40 := by unfold lineL; rw [join2]; simp [wVers]; omega
    refine .inr ?_
    refine cd (line_ok [wName, m.name] (by simp) (by rw [join2]; simp [wName]; omega)) ?_
    refine gf ?_
    refine .inr ?_
    refine cd (line_ok [wVers, m.ver] (by simp) (by rw [join2]; simp [wVers]; omega)) ?_
    refine gf ?_
    have rn := rulesL_len wNeeds m.needs fun r hr => rule_len (hm.ns r hr)
    have rc := rulesL_len wClash m.clashes fun r hr => rule_len (hm.cs r hr)
    have rn2 : (rulesL wNeeds m.needs).length ≤ 16 * 60 := Nat.le_trans rn (Nat.mul_le_mul hm.nl (by decide))
    have rc2 : (rulesL wClash m.clashes).length ≤ 16 * 62 := Nat.le_trans rc (Nat.mul_le_mul hm.cl (by decide))
    refine cd (rulesL_ok wNeeds m.needs (by decide) hm.nl (fun r hr => rule_len (hm.ns r hr))) ?_
    refine gf ?_
    refine cd (rulesL_ok wClash m.clashes (by decide) hm.cl (fun r hr => rule_len (hm.cs r hr))) ?_
    refine gf ?_
    have el := hm.el
    have pl : (preL m ++ rulesL wNeeds m.needs ++ rulesL wClash m.clashes).length ≤ 3000 := by simp [preL, wHead]; omega
    refine lp_hd [33, 34] [] (fun i : Nat => [(5, .s (preL m ++ rulesL wNeeds m.needs ++ rulesL wClash m.clashes ++ entsL (m.ents.take i))), (35, .n .i64 (i : Int))]) (fun i : Nat => []) (fun i : Nat => i ≤ m.ents.length) (fun i : Nat => m.ents.length - i) (0) id (id) (Nat.zero_le _) (fits_of (gf ?_) (gf ?_) (gf ?_) (gf ?_) (gf ?_)) ?_
    · first | exact True.intro | exact ⟨rfl, rfl⟩ | exact ⟨rfl, rfl, rfl⟩ | rfl | exact rowc (List.map_id _) | trivial
    · (refine ⟨?_, rfl⟩; simp [preL, wHead, entsL, wName, wVers, wNeeds, wClash])
    · first | exact True.intro | exact ⟨rfl, rfl⟩ | exact ⟨rfl, rfl, rfl⟩ | rfl | exact rowc (List.map_id _) | trivial
    · first | exact True.intro | exact ⟨rfl, rfl⟩ | exact ⟨rfl, rfl, rfl⟩ | rfl | exact rowc (List.map_id _) | trivial
    · first | exact True.intro | exact ⟨rfl, rfl⟩ | exact ⟨rfl, rfl, rfl⟩ | rfl | exact rowc (List.map_id _) | trivial
    rintro i hi
    have hlen := entsL_len (m.ents.take i) fun x hx => hm.ents x (List.mem_of_mem_take hx)
    have hlen2 : (m.ents.take i).length * 500 ≤ 64 * 500 := Nat.mul_le_mul (by rw [List.length_take]; omega) (by decide)
    try refine gf ?_
    refine br (fun e => ?_) (fun e => ?_)
    · have htk : entsL (m.ents.take (i + 1)) = entsL (m.ents.take i) ++ entL (m.ents.getD i dE) := by
        rw [take_at m.ents i dE (by omega), entsL, List.flatMap_append]; simp [entsL]
      have hx := hm.ents _ (getD_mem (x := dE) (show i < m.ents.length by omega))
      have hxl := entL_len hx
      try refine gf ?_
      generalize m.ents.getD i dE = x at hx hxl htk ⊢
      refine cl (entL_ok x hx) ?_
      refine gf ?_
      refine ⟨by simp at pl ⊢; omega, ?_⟩
      refine ⟨i + 1, (by omega), (by omega), fits_of (gf ?_) (gf ?_) (gf ?_) (gf ?_) (gf ?_)⟩
      · first | exact True.intro | exact ⟨rfl, rfl⟩ | exact ⟨rfl, rfl, rfl⟩ | rfl | exact rowc (List.map_id _) | trivial
      · (rw [htk]; simp)
      · first | exact True.intro | exact ⟨rfl, rfl⟩ | exact ⟨rfl, rfl, rfl⟩ | rfl | exact rowc (List.map_id _) | trivial
      · first | exact True.intro | exact ⟨rfl, rfl⟩ | exact ⟨rfl, rfl, rfl⟩ | rfl | exact rowc (List.map_id _) | trivial
      · first | exact True.intro | exact ⟨rfl, rfl⟩ | exact ⟨rfl, rfl, rfl⟩ | rfl | exact rowc (List.map_id _) | trivial
    · try refine gf ?_
      rw [List.take_of_length_le (by omega)]
      simp [textM]
end Go.Proofs.YtagjeabdcjcchaaGreatDoor.Ev
