/- Manifests: whether one may be, its text. -/
import Derived.Test.YtjbnmeofjiokeaaGreatDoorNB
set_option linter.all false
namespace Go.Proofs.YtjbnmeofjiokeaaGreatDoor.Ev
open Go.RowKit
open Go.Proofs.YtjbnmeofjiokeaaGreatDoor.Mem
set_option linter.unusedVariables false
set_option linter.unusedSimpArgs false
set_option maxRecDepth 100000
structure Man.Fit (m : Man) : Prop where
  n : m.name.length ≤ 140737488355328
  v : m.ver.length ≤ 140737488355328
  nl : m.needs.length ≤ 100000000000000
  cl : m.clashes.length ≤ 100000000000000
  el : m.ents.length ≤ 100000000000000
  ns : ∀ r ∈ m.needs, r.name.length ≤ 140737488355328 ∧ r.ver.length ≤ 140737488355328
  cs : ∀ r ∈ m.clashes, r.name.length ≤ 140737488355328 ∧ r.ver.length ≤ 140737488355328
  es : ∀ x ∈ m.ents, x.path.length ≤ 140737488355328 ∧ x.target.length ≤ 140737488355328 ∧ x.sum.length ≤ 140737488355328
def checkM (m : Man) : Int :=
  if nameB m.name = false ∨ verB m.ver = false then 1 else if 16 < m.needs.length ∨ 16 < m.clashes.length ∨ 64 < m.ents.length then 3 else
  if m.needs.all ruleB = false ∨ m.clashes.all ruleB = false then 1 else entsM m.ents
set_option maxHeartbeats 4000000 in
theorem check_ok (m : Man) (hf : m.Fit) : Spec Tryz.prog LL 60 [eMan m] (.n .i64 (checkM m)) := by
  refine spec_of (C := ⟨Tryz.prog, LL, EE, []⟩) (rl := [.n .i64 (checkM m)]) (rs := [.tmp 2]) CCx LLs Tryz.func60 rfl (by kernel_rfl) rfl (by kernel_rfl) (Nat.le_of_ble_eq_true rfl) (fun i => rfl) (fun i => rfl) rfl (by decide) ?_
  refine gf ?_
  have h3 := hf.nl
  have h4 := hf.cl
  have h5 := hf.el
  have t1 : nameB m.name = false ∨ verB m.ver = false → 1 = checkM m := fun h => by rw [checkM, if_pos h]
  have t2 : ¬ (nameB m.name = false ∨ verB m.ver = false) → (16 < m.needs.length ∨ 16 < m.clashes.length ∨ 64 < m.ents.length) → 3 = checkM m := fun h h' => by rw [checkM, if_neg h, if_pos h']
  have t3 : ¬ (nameB m.name = false ∨ verB m.ver = false) → ¬ (16 < m.needs.length ∨ 16 < m.clashes.length ∨ 64 < m.ents.length) → (m.needs.all ruleB = false ∨ m.clashes.all ruleB = false) → 1 = checkM m := fun h h' h'' => by rw [checkM, if_neg h, if_neg h', if_pos h'']
  have t4 : ¬ (nameB m.name = false ∨ verB m.ver = false) → ¬ (16 < m.needs.length ∨ 16 < m.clashes.length ∨ 64 < m.ents.length) → ¬ (m.needs.all ruleB = false ∨ m.clashes.all ruleB = false) → entsM m.ents = checkM m := fun h h' h'' => by rw [checkM, if_neg h, if_neg h', if_neg h'']
  repeat' (first | exact True.intro | (exact t1 (.inl (by assumption))) | (exact t1 (.inr (by assumption))) | (exact t2 (fun h => h.elim (by assumption) (by assumption)) (by omega)) | (exact t3 (fun h => h.elim (by assumption) (by assumption)) (by omega) (.inl (by assumption))) | (exact t3 (fun h => h.elim (by assumption) (by assumption)) (by omega) (.inr (by assumption))) | (exact t4 (fun h => h.elim (by assumption) (by assumption)) (by omega) (fun h => h.elim (by assumption) (by assumption))) | (exfalso; omega) | (exfalso; contradiction) | refine cl (name_ok m.name hf.n) (gf ?_) | refine cl (ver_ok m.ver hf.v) (gf ?_) | refine cl (rules_ok m.needs hf.nl hf.ns) (gf ?_) | refine cl (rules_ok m.clashes hf.cl hf.cs) (gf ?_) | refine cl (ents_ok m.ents hf.el hf.es) (gf ?_) | refine br (fun h => ?_) (fun h => ?_) | refine gf ?_)
/-- Rules that may be have short lines. -/
theorem name_len {s : List UInt8} (h : nameB s = true) : s.length ≤ 24 := by simp [nameB] at h; exact h.1.2
theorem ver_len {s : List UInt8} (h : verB s = true) : s.length ≤ 24 := by simp [verB] at h; exact h.1.2
theorem rule_len {r : Rul} (h : ruleB r = true) : r.name.length ≤ 24 ∧ r.ver.length ≤ 24 := by
  unfold ruleB at h
  rw [Bool.and_eq_true] at h
  refine ⟨name_len h.1, ?_⟩
  have h2 := h.2
  by_cases e : r.op = 0
  · simp [e] at h2; simp [h2]
  · simp [e] at h2; exact ver_len h2.2
end Go.Proofs.YtjbnmeofjiokeaaGreatDoor.Ev
namespace Go.Proofs.YtjbnmeofjiokeaaGreatDoor.Ev
open Go.RowKit
open Go.Proofs.YtjbnmeofjiokeaaGreatDoor.Mem
set_option linter.unusedVariables false
set_option linter.unusedSimpArgs false
set_option maxRecDepth 100000
/-- An entry that may be. -/
structure EntOk (x : Ent) : Prop where
  m : 0 ≤ x.mode ∧ x.mode ≤ 4095
  k : knd x.kind
  s : (x.sum.length : Int) = sizeM x.kind
  p : (partsM x.path).2 = 0
  r : resB x.path = false
  l : x.kind = 3 → x.mode = 0 ∧ tarB x.target = true
  t : ¬ x.kind = 3 → x.target = []
theorem EntOk.of {x : Ent} (h : entryM x = 0) : EntOk x := by
  unfold entryM at h
  by_cases h1 : ¬ (partsM x.path).2 = 0
  · rw [if_pos h1] at h; exact absurd h h1
  rw [if_neg h1] at h
  by_cases h2 : resB x.path = true
  · rw [if_pos h2] at h; cases h
  rw [if_neg h2] at h
  by_cases h3 : ¬ knd x.kind
  · rw [if_pos h3] at h; cases h
  rw [if_neg h3] at h
  by_cases h4 : x.mode < 0 ∨ 4095 < x.mode ∨ (x.kind = 3 ∧ ¬ x.mode = 0) ∨ ¬ (x.sum.length : Int) = sizeM x.kind
  · rw [if_pos h4] at h; cases h
  rw [if_neg h4] at h
  by_cases h5 : x.kind = 3 ∧ tarB x.target = false
  · rw [if_pos h5] at h; cases h
  rw [if_neg h5] at h
  by_cases h6 : ¬ x.kind = 3 ∧ ¬ x.target = []
  · rw [if_pos h6] at h; cases h
  refine ⟨by omega, Decidable.not_not.1 h3, by omega, Decidable.not_not.1 h1, by simpa using h2, fun hk => ⟨by omega, ?_⟩, fun hk => ?_⟩
  · simpa using fun e => h5 ⟨hk, e⟩
  · exact Decidable.not_not.1 fun e => h6 ⟨hk, e⟩
theorem EntOk.sums {x : Ent} (h : EntOk x) : x.sum.length ≤ 32 := by
  have h1 := h.s
  unfold sizeM at h1
  split at h1 <;> omega
theorem EntOk.tars {x : Ent} (h : EntOk x) : x.target.length ≤ 200 := by
  by_cases hk : x.kind = 3
  · have := (h.l hk).2
    simp [tarB] at this
    exact this.1.2
  · rw [h.t hk]; simp
end Go.Proofs.YtjbnmeofjiokeaaGreatDoor.Ev
namespace Go.Proofs.YtjbnmeofjiokeaaGreatDoor.Ev
open Go.RowKit
open Go.Proofs.YtjbnmeofjiokeaaGreatDoor.Mem
set_option linter.unusedVariables false
set_option linter.unusedSimpArgs false
set_option maxRecDepth 100000
theorem entsM_all {l : List Ent} (h : entsM l = 0) : ∀ j, j < l.length → entF l j = 0 := by
  intro j
  induction j using Nat.strongRecOn with
  | ind j ih =>
    intro hj
    by_cases e : entF l j = 0
    · exact e
    · have := entsM_at hj (fun k hk => ih k hk (by omega)) e
      rw [h] at this
      exact this.symm
theorem entF_entry {l : List Ent} {j : Nat} (h : entF l j = 0) : entryM (l.getD j dE) = 0 := by
  unfold entF at h
  split at h
  · rename_i h1; exact absurd h h1
  · rename_i h1; exact Decidable.not_not.1 h1
/-- A manifest that may be. -/
structure ManOk (m : Man) : Prop where
  n : nameB m.name = true
  v : verB m.ver = true
  nl : m.needs.length ≤ 16
  cl : m.clashes.length ≤ 16
  el : m.ents.length ≤ 64
  ns : ∀ r ∈ m.needs, ruleB r = true
  cs : ∀ r ∈ m.clashes, ruleB r = true
  es : entsM m.ents = 0
theorem ManOk.of {m : Man} (h : checkM m = 0) : ManOk m := by
  unfold checkM at h
  split at h
  · cases h
  · rename_i h1
    split at h
    · cases h
    · rename_i h2
      split at h
      · cases h
      · rename_i h3
        simp only [not_or, Bool.not_eq_false, List.all_eq_true] at h1 h3
        exact ⟨h1.1, h1.2, by omega, by omega, by omega, h3.1, h3.2, h⟩
theorem ManOk.ents {m : Man} (h : ManOk m) : ∀ x ∈ m.ents, EntOk x := fun x hx => by
  obtain ⟨j, hj, rfl⟩ := List.getElem_of_mem hx
  have := EntOk.of (entF_entry (entsM_all h.es j hj))
  rwa [List.getD_eq_getElem?_getD, List.getElem?_eq_getElem hj] at this
end Go.Proofs.YtjbnmeofjiokeaaGreatDoor.Ev
