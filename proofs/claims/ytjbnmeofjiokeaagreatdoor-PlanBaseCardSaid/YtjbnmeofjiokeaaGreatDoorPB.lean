/- What the library's functions of numbers and texts give. -/
import Derived.Test.YtjbnmeofjiokeaaGreatDoorPA
set_option linter.all false
namespace Go.Proofs.YtjbnmeofjiokeaaGreatDoor.Ev
open Go.RowKit
open Go.Proofs.YtjbnmeofjiokeaaGreatDoor.Mem
set_option linter.unusedVariables false
set_option linter.unusedSimpArgs false
set_option maxRecDepth 100000
end Go.Proofs.YtjbnmeofjiokeaaGreatDoor.Ev
namespace Go.Proofs.YtjbnmeofjiokeaaGreatDoor.Ev
open Go.RowKit
open Go.Proofs.YtjbnmeofjiokeaaGreatDoor.Mem
set_option linter.unusedVariables false
set_option linter.unusedSimpArgs false
set_option maxRecDepth 100000
def insM : List Man → Man → List Man
  | [], m => [m]
  | p :: r, m => if lt' p.name m.name = true then p :: insM r m else m :: p :: r
def insS : List Shr → Shr → List Shr
  | [], d => [d]
  | e :: r, d => if lt' e.path d.path = true then e :: insS r d else d :: e :: r
def bump : List Shr → List UInt8 → List Shr
  | [], _ => []
  | d :: r, p => if d.path = p then ⟨d.path, d.refs + 1, d.made⟩ :: r else d :: bump r p
def joinM (l : List Shr) (p : List UInt8) (mk : Bool) : List Shr := if dirIx l p = true then bump l p else insS l ⟨p, 1, mk⟩
def addDirs (mk : List UInt8 → Bool) : List Ent → List Shr → List Shr
  | [], l => l
  | x :: r, l => addDirs mk r (if x.kind = 2 then joinM l x.path (mk x.path) else l)
def addB (b : Bas) (m : Man) (mk : List UInt8 → Bool) : Bas := ⟨insM b.packs m, addDirs mk m.ents b.dirs⟩
theorem insM_mem {l : List Man} {m x : Man} : x ∈ insM l m ↔ x = m ∨ x ∈ l := by
  induction l with
  | nil => simp [insM]
  | cons p r ih =>
    unfold insM
    split
    · rw [List.mem_cons, ih, List.mem_cons]
      constructor
      · rintro (h | h | h)
        · exact .inr (.inl h)
        · exact .inl h
        · exact .inr (.inr h)
      · rintro (h | h | h)
        · exact .inr (.inl h)
        · exact .inl h
        · exact .inr (.inr h)
    · rw [List.mem_cons, List.mem_cons]
theorem insM_len (l : List Man) (m : Man) : (insM l m).length = l.length + 1 := by
  induction l with
  | nil => rfl
  | cons p r ih =>
    unfold insM
    split
    · rw [List.length_cons, ih, List.length_cons]
    · rfl
theorem insM_ents (l : List Man) (m : Man) : (entsOf (insM l m)).Perm (m.ents ++ entsOf l) := by
  induction l with
  | nil => simp [insM, entsOf]
  | cons p r ih =>
    unfold insM
    split
    · have e1 : entsOf (p :: insM r m) = p.ents ++ entsOf (insM r m) := by simp [entsOf]
      have e2 : entsOf (p :: r) = p.ents ++ entsOf r := by simp [entsOf]
      rw [e1, e2]
      refine (ih.append_left p.ents).trans ?_
      rw [← List.append_assoc, ← List.append_assoc]
      exact List.perm_append_comm.append_right _
    · have e1 : entsOf (m :: p :: r) = m.ents ++ entsOf (p :: r) := by simp [entsOf]
      rw [e1]
theorem insM_ris : ∀ {l : List Man} {m : Man}, Ris (l.map (·.name)) → (∀ x ∈ l, x.name ≠ m.name) → Ris ((insM l m).map (·.name))
  | [], m, _, _ => List.pairwise_singleton _ _
  | p :: r, m, h, hn => by
    unfold insM
    unfold Ris at h ⊢
    rw [List.map_cons, List.pairwise_cons] at h
    by_cases c : lt' p.name m.name = true
    · rw [if_pos c, List.map_cons, List.pairwise_cons]
      refine ⟨fun a ha => ?_, insM_ris h.2 fun x hx => hn x (by simp [hx])⟩
      obtain ⟨x, hx, rfl⟩ := List.mem_map.1 ha
      rcases insM_mem.1 hx with rfl | hx
      · exact c
      · exact h.1 _ (List.mem_map_of_mem hx)
    · rw [if_neg c, List.map_cons, List.map_cons, List.pairwise_cons, List.pairwise_cons]
      have hm : lt' m.name p.name = true := by
        rcases lt_tot m.name p.name with h1 | h1 | h1
        · exact h1
        · exact absurd h1.symm (hn p (by simp))
        · exact absurd h1 c
      refine ⟨fun a ha => ?_, h.1, h.2⟩
      rcases List.mem_cons.1 ha with rfl | ha
      · exact hm
      · exact lt_tr hm (h.1 a ha)
theorem man_eq : ∀ {l l' : List Man}, Ris (l.map (·.name)) → Ris (l'.map (·.name)) → (∀ x, x ∈ l ↔ x ∈ l') → l = l'
  | [], [], _, _, _ => rfl
  | [], y :: l', _, _, h => by have := (h y).2 (by simp); simp at this
  | x :: l, [], _, _, h => by have := (h x).1 (by simp); simp at this
  | x :: l, y :: l', h1, h2, h => by
    unfold Ris at h1 h2
    rw [List.map_cons, List.pairwise_cons] at h1 h2
    have e : x = y := by
      have a1 := (h x).1 (by simp)
      have a2 := (h y).2 (by simp)
      rw [List.mem_cons] at a1 a2
      rcases a1 with a1 | a1
      · exact a1
      · rcases a2 with a2 | a2
        · exact a2.symm
        · have b1 := h2.1 _ (List.mem_map_of_mem a1)
          have b2 := h1.1 _ (List.mem_map_of_mem a2)
          have := lt_tr b1 b2
          rw [lt_irr] at this
          cases this
    subst e
    rw [man_eq h1.2 h2.2 fun z => ⟨fun hz => ?_, fun hz => ?_⟩]
    · have a := (h z).1 (by simp [hz])
      rw [List.mem_cons] at a
      rcases a with a | a
      · subst a
        have := h1.1 _ (List.mem_map_of_mem hz)
        rw [lt_irr] at this
        cases this
      · exact a
    · have a := (h z).2 (by simp [hz])
      rw [List.mem_cons] at a
      rcases a with a | a
      · subst a
        have := h2.1 _ (List.mem_map_of_mem hz)
        rw [lt_irr] at this
        cases this
      · exact a
/-! ### Directories that come in -/
theorem bump_paths (l : List Shr) (p : List UInt8) : (bump l p).map (·.path) = l.map (·.path) := by
  induction l with
  | nil => rfl
  | cons d r ih =>
    unfold bump
    split
    · rfl
    · rw [List.map_cons, ih, List.map_cons]
theorem bump_mem : ∀ {l : List Shr} {p : List UInt8}, Ris (l.map (·.path)) → ∀ e, e ∈ bump l p ↔ (e ∈ l ∧ e.path ≠ p) ∨ ∃ d ∈ l, d.path = p ∧ e = ⟨p, d.refs + 1, d.made⟩
  | [], p, _, e => by simp [bump]
  | d :: r, p, h, e => by
    unfold Ris at h
    rw [List.map_cons, List.pairwise_cons] at h
    have hr : ∀ x ∈ r, x.path ≠ d.path := fun x hx e => by have := h.1 _ (List.mem_map_of_mem hx); rw [e, lt_irr] at this; cases this
    unfold bump
    by_cases c : d.path = p
    · rw [if_pos c, List.mem_cons]
      constructor
      · rintro (h1 | h1)
        · exact .inr ⟨d, by simp, c, by rw [h1, c]⟩
        · exact .inl ⟨by simp [h1], fun h2 => hr e h1 (h2.trans c.symm)⟩
      · rintro (⟨h1, h2⟩ | ⟨x, hx, h1, h2⟩)
        · rw [List.mem_cons] at h1
          rcases h1 with h1 | h1
          · exact absurd (h1 ▸ c) h2
          · exact .inr h1
        · rw [List.mem_cons] at hx
          rcases hx with hx | hx
          · subst hx; exact .inl (by rw [h2, ← c])
          · exact absurd (h1.trans c.symm) (hr x hx)
    · rw [if_neg c, List.mem_cons, bump_mem h.2 e]
      constructor
      · rintro (h1 | ⟨h1, h2⟩ | ⟨x, hx, h1⟩)
        · exact .inl ⟨by simp [h1], by rw [h1]; exact c⟩
        · exact .inl ⟨by simp [h1], h2⟩
        · exact .inr ⟨x, by simp [hx], h1⟩
      · rintro (⟨h1, h2⟩ | ⟨x, hx, h1, h2⟩)
        · rw [List.mem_cons] at h1
          rcases h1 with h1 | h1
          · exact .inl h1
          · exact .inr (.inl ⟨h1, h2⟩)
        · rw [List.mem_cons] at hx
          rcases hx with hx | hx
          · subst hx; exact absurd h1 c
          · exact .inr (.inr ⟨x, hx, h1, h2⟩)
theorem insS_mem {l : List Shr} {d x : Shr} : x ∈ insS l d ↔ x = d ∨ x ∈ l := by
  induction l with
  | nil => simp [insS]
  | cons p r ih =>
    unfold insS
    split
    · rw [List.mem_cons, ih, List.mem_cons]
      constructor
      · rintro (h | h | h)
        · exact .inr (.inl h)
        · exact .inl h
        · exact .inr (.inr h)
      · rintro (h | h | h)
        · exact .inr (.inl h)
        · exact .inl h
        · exact .inr (.inr h)
    · rw [List.mem_cons, List.mem_cons]
theorem insS_ris : ∀ {l : List Shr} {d : Shr}, Ris (l.map (·.path)) → (∀ x ∈ l, x.path ≠ d.path) → Ris ((insS l d).map (·.path))
  | [], m, _, _ => List.pairwise_singleton _ _
  | p :: r, m, h, hn => by
    unfold insS
    unfold Ris at h ⊢
    rw [List.map_cons, List.pairwise_cons] at h
    by_cases c : lt' p.path m.path = true
    · rw [if_pos c, List.map_cons, List.pairwise_cons]
      refine ⟨fun a ha => ?_, insS_ris h.2 fun x hx => hn x (by simp [hx])⟩
      obtain ⟨x, hx, rfl⟩ := List.mem_map.1 ha
      rcases insS_mem.1 hx with rfl | hx
      · exact c
      · exact h.1 _ (List.mem_map_of_mem hx)
    · rw [if_neg c, List.map_cons, List.map_cons, List.pairwise_cons, List.pairwise_cons]
      have hm : lt' m.path p.path = true := by
        rcases lt_tot m.path p.path with h1 | h1 | h1
        · exact h1
        · exact absurd h1.symm (hn p (by simp))
        · exact absurd h1 c
      refine ⟨fun a ha => ?_, h.1, h.2⟩
      rcases List.mem_cons.1 ha with rfl | ha
      · exact hm
      · exact lt_tr hm (h.1 a ha)
/-- What a directory comes to. -/
def upd (l : List Shr) (p : List UInt8) (mk : Bool) (e : Shr) : Prop := (∃ d ∈ l, d.path = p ∧ e = ⟨p, d.refs + 1, d.made⟩) ∨ ((∀ d ∈ l, d.path ≠ p) ∧ e = ⟨p, 1, mk⟩)
theorem joinM_mem {l : List Shr} {p : List UInt8} {mk : Bool} (h : Ris (l.map (·.path))) (e : Shr) : e ∈ joinM l p mk ↔ (e ∈ l ∧ e.path ≠ p) ∨ upd l p mk e := by
  unfold joinM upd
  by_cases c : dirIx l p = true
  · rw [if_pos c, bump_mem h]
    obtain ⟨d, hd, hp⟩ := dirIx_iff.1 c
    constructor
    · rintro (h1 | h1)
      · exact .inl h1
      · exact .inr (.inl h1)
    · rintro (h1 | h1 | ⟨h1, _⟩)
      · exact .inl h1
      · exact .inr h1
      · exact absurd hp (h1 d hd)
  · rw [if_neg c, insS_mem]
    have hn : ∀ d ∈ l, d.path ≠ p := fun d hd e => c (dirIx_iff.2 ⟨d, hd, e⟩)
    constructor
    · rintro (h1 | h1)
      · exact .inr (.inr ⟨hn, h1⟩)
      · exact .inl ⟨h1, hn e h1⟩
    · rintro (h1 | ⟨d, hd, h1, _⟩ | ⟨_, h1⟩)
      · exact .inr h1.1
      · exact absurd h1 (hn d hd)
      · exact .inl h1
theorem joinM_ris {l : List Shr} {p : List UInt8} {mk : Bool} (h : Ris (l.map (·.path))) : Ris ((joinM l p mk).map (·.path)) := by
  unfold joinM
  by_cases c : dirIx l p = true
  · rw [if_pos c, bump_paths]; exact h
  · rw [if_neg c]
    exact insS_ris h fun x hx e => c (dirIx_iff.2 ⟨x, hx, e⟩)
/-- A path's directory among entries. -/
def isD (E : List Ent) (p : List UInt8) : Prop := ∃ x ∈ E, x.path = p ∧ x.kind = 2
theorem addDirs_ris {mk : List UInt8 → Bool} : ∀ {E : List Ent} {l : List Shr}, Ris (l.map (·.path)) → Ris ((addDirs mk E l).map (·.path))
  | [], l, h => h
  | x :: r, l, h => by
    unfold addDirs
    refine addDirs_ris ?_
    split
    · exact joinM_ris h
    · exact h
theorem addDirs_mem {mk : List UInt8 → Bool} : ∀ {E : List Ent} {l : List Shr}, Ris (E.map (·.path)) → Ris (l.map (·.path)) → ∀ e, e ∈ addDirs mk E l ↔ (e ∈ l ∧ ¬ isD E e.path) ∨ (isD E e.path ∧ upd l e.path (mk e.path) e)
  | [], l, _, _, e => by
    unfold addDirs isD
    simp
  | x :: r, l, hE, h, e => by
    unfold Ris at hE
    rw [List.map_cons, List.pairwise_cons] at hE
    have hx : ∀ y ∈ r, y.path ≠ x.path := fun y hy e => by have := hE.1 _ (List.mem_map_of_mem hy); rw [e, lt_irr] at this; cases this
    unfold addDirs
    by_cases c : x.kind = 2
    · rw [if_pos c, addDirs_mem hE.2 (joinM_ris h), joinM_mem h]
      have d1 : isD (x :: r) e.path ↔ x.path = e.path ∨ isD r e.path := by
        unfold isD
        constructor
        · rintro ⟨y, hy, h1⟩
          rw [List.mem_cons] at hy
          rcases hy with hy | hy
          · subst hy; exact .inl h1.1
          · exact .inr ⟨y, hy, h1⟩
        · rintro (h1 | ⟨y, hy, h1⟩)
          · exact ⟨x, by simp, h1, c⟩
          · exact ⟨y, by simp [hy], h1⟩
      have d2 : x.path = e.path → ¬ isD r e.path := by
        rintro h1 ⟨y, hy, h2, _⟩
        exact hx y hy (h2.trans h1.symm)
      by_cases q : x.path = e.path
      · have q2 := d2 q
        rw [q]
        constructor
        · rintro (⟨⟨_, h1⟩ | h1, _⟩ | ⟨h1, _⟩)
          · exact absurd rfl h1
          · exact .inr ⟨d1.2 (.inl q), h1⟩
          · exact absurd h1 q2
        · rintro (⟨_, h1⟩ | ⟨_, h1⟩)
          · exact absurd (d1.2 (.inl q)) h1
          · exact .inl ⟨.inr h1, q2⟩
      · have hu : ∀ mk', upd (joinM l x.path (mk x.path)) e.path mk' e ↔ upd l e.path mk' e := fun mk' => by
          unfold upd
          constructor
          · rintro (⟨d, hd, h1, h2⟩ | ⟨h1, h2⟩)
            · rw [joinM_mem h] at hd
              rcases hd with ⟨hd, _⟩ | hd
              · exact .inl ⟨d, hd, h1, h2⟩
              · unfold upd at hd
                rcases hd with ⟨d', _, _, rfl⟩ | ⟨_, rfl⟩ <;> exact absurd h1 q
            · refine .inr ⟨fun d hd e2 => h1 d ((joinM_mem h d).2 (.inl ⟨hd, fun e3 => q (e3.symm.trans e2)⟩)) e2, h2⟩
          · rintro (⟨d, hd, h1, h2⟩ | ⟨h1, h2⟩)
            · exact .inl ⟨d, (joinM_mem h d).2 (.inl ⟨hd, fun e3 => q (e3.symm.trans h1)⟩), h1, h2⟩
            · refine .inr ⟨fun d hd e2 => ?_, h2⟩
              rw [joinM_mem h] at hd
              rcases hd with ⟨hd, _⟩ | hd
              · exact h1 d hd e2
              · unfold upd at hd
                rcases hd with ⟨d', _, _, rfl⟩ | ⟨_, rfl⟩ <;> exact q e2
        rw [hu]
        have hue : upd l x.path (mk x.path) e → False := by
          unfold upd
          rintro (⟨d', _, _, h1⟩ | ⟨_, h1⟩) <;> exact q (by rw [h1])
        have d3 : isD (x :: r) e.path ↔ isD r e.path := by rw [d1]; exact ⟨fun h => h.resolve_left q, .inr⟩
        rw [d3]
        constructor
        · rintro (⟨⟨h1, _⟩ | h1, h2⟩ | h1)
          · exact .inl ⟨h1, h2⟩
          · exact (hue h1).elim
          · exact .inr h1
        · rintro (⟨h1, h2⟩ | h1)
          · exact .inl ⟨.inl ⟨h1, fun e3 => q e3.symm⟩, h2⟩
          · exact .inr h1
    · rw [if_neg c, addDirs_mem hE.2 h]
      have d1 : isD (x :: r) e.path ↔ isD r e.path := by
        unfold isD
        constructor
        · rintro ⟨y, hy, h1⟩
          rw [List.mem_cons] at hy
          rcases hy with hy | hy
          · subst hy; exact absurd h1.2 c
          · exact ⟨y, hy, h1⟩
        · rintro ⟨y, hy, h1⟩
          exact ⟨y, by simp [hy], h1⟩
      rw [d1]
end Go.Proofs.YtjbnmeofjiokeaaGreatDoor.Ev
namespace Go.Proofs.YtjbnmeofjiokeaaGreatDoor.Ev
open Go.RowKit
open Go.Proofs.YtjbnmeofjiokeaaGreatDoor.Mem
set_option linter.unusedVariables false
set_option linter.unusedSimpArgs false
set_option maxRecDepth 100000
def findM : List Man → List UInt8 → Man × Bool
  | [], _ => (dM, false)
  | m :: r, n => if m.name = n then (m, true) else findM r n
theorem findM_of : ∀ {l : List Man}, Ris (l.map (·.name)) → ∀ m ∈ l, findM l m.name = (m, true)
  | [], _, x, h => by simp at h
  | y :: r, hr, x, h => by
    unfold Ris at hr
    rw [List.map_cons, List.pairwise_cons] at hr
    unfold findM
    rw [List.mem_cons] at h
    rcases h with h | h
    · subst h; rw [if_pos rfl]
    · rw [if_neg, findM_of hr.2 x h]
      intro e
      have := hr.1 x.name (List.mem_map_of_mem h)
      rw [e, lt_irr] at this
      cases this
theorem findM_no : ∀ {l : List Man} {n : List UInt8}, (findM l n).2 = false ↔ ∀ m ∈ l, m.name ≠ n
  | [], n => by simp [findM]
  | m :: r, n => by
    unfold findM
    by_cases e : m.name = n
    · rw [if_pos e]; simp [e]
    · rw [if_neg e, findM_no]; simp [e]
def goD (E : List Ent) (d : Shr) : Option Shr := if dirB2 E d.path = true then (if d.refs - 1 ≤ 0 then none else some ⟨d.path, d.refs - 1, d.made⟩) else some d
def withoutB (b : Bas) (n : List UInt8) : Bas := ⟨b.packs.filter fun m => decide (m.name ≠ n), b.dirs.filterMap (goD (findM b.packs n).1.ents)⟩
theorem dirB2_iff {m : Man} (h : ManOk m) {p : List UInt8} : dirB2 m.ents p = true ↔ isD m.ents p := by
  unfold dirB2 isD
  rw [Bool.and_eq_true, decide_eq_true_eq]
  constructor
  · rintro ⟨h1, h2⟩
    obtain ⟨h3, h4⟩ := hasM_mem h1
    exact ⟨_, h3, h4, h2⟩
  · rintro ⟨x, hx, rfl, hk⟩
    rw [hasM_of (ents_ris h) x hx]
    exact ⟨rfl, hk⟩
theorem goD_ris {E : List Ent} {l : List Shr} (h : Ris (l.map (·.path))) : Ris ((l.filterMap (goD E)).map (·.path)) := by
  unfold Ris at h ⊢
  rw [List.pairwise_map] at h ⊢
  rw [List.pairwise_filterMap]
  refine h.imp fun {a b} hab x hx y hy => ?_
  have k : ∀ (d e : Shr), goD E d = some e → e.path = d.path := fun d e he => by
    unfold goD at he
    split at he
    · split at he
      · cases he
      · rw [Option.some.injEq] at he; rw [← he]
    · rw [Option.some.injEq] at he; rw [he]
  rw [k a x hx, k b y hy]
  exact hab
theorem isD_cnt {m : Man} (hm : ManOk m) (p : List UInt8) : (isD m.ents p → cnt2 m.ents p = 1) ∧ (¬ isD m.ents p → cnt2 m.ents p = 0) := by
  have h := refs_cnt (ps := [m]) (fun x hx => by rw [List.mem_singleton] at hx; rw [hx]; exact hm) p
  have e : entsOf [m] = m.ents := by simp [entsOf]
  rw [e] at h
  rw [← h]
  unfold refsM
  constructor
  · intro c
    simp [List.filter_cons, (dirB2_iff hm).2 c]
  · intro c
    have c' : dirB2 m.ents p = false := by rw [← Bool.not_eq_true]; exact fun h => c ((dirB2_iff hm).1 h)
    simp [List.filter_cons, c']
theorem comes_ok {b : Bas} {m : Man} {mk : List UInt8 → Bool} (hb : BasOk b) (hc : checkM m = 0) (hn : ∀ x ∈ b.packs, x.name ≠ m.name) (hl : b.packs.length < 32) : BasOk (addB b m mk) ↔ ∀ x ∈ m.ents, (ownM b.packs x.path).2 = false ∧ (dirIx b.dirs x.path = true → x.kind = 2) := by
  have hm := ManOk.of hc
  have hok : ∀ n ∈ b.packs, ManOk n := fun n hn => ManOk.of (hb.chk n hn)
  have hpe := insM_ents b.packs m
  have hone : (entsOf (insM b.packs m)).Pairwise both2 ↔ ∀ x ∈ m.ents, ∀ y ∈ entsOf b.packs, both2 x y := by
    rw [perm_one hpe, List.pairwise_append]
    have h1 : m.ents.Pairwise both2 := by
      have := one_ents (ps := [m]) (fun x hx => by rw [List.mem_singleton] at hx; rw [hx]; exact hm) (List.pairwise_singleton _ _) (fun a ha c hc hne => by rw [List.mem_singleton] at ha hc; exact absurd (ha.trans hc.symm) hne)
      have e : entsOf [m] = m.ents := by simp [entsOf]
      rwa [e] at this
    exact ⟨fun h => h.2.2, fun h => ⟨h1, hb.one, h⟩⟩
  have hcnt : ∀ p, cnt2 (entsOf (insM b.packs m)) p = cnt2 m.ents p + cnt2 (entsOf b.packs) p := fun p => by rw [cnt2_perm hpe, cnt2_app]
  have key : (entsOf (insM b.packs m)).Pairwise both2 → BasOk (addB b m mk) := fun h1 => by
    refine ⟨by show (insM b.packs m).length ≤ 32; rw [insM_len]; omega, fun x hx => ?_, insM_ris hb.names hn, h1, addDirs_ris hb.paths, fun d hd => ?_, fun x hx hk => ?_⟩
    · rcases insM_mem.1 hx with rfl | hx
      · exact hc
      · exact hb.chk x hx
    · have hd' := (addDirs_mem (mk := mk) (ents_ris hm) hb.paths d).1 hd
      show d.refs = (cnt2 (entsOf (insM b.packs m)) d.path : Nat) ∧ _
      rw [hcnt]
      obtain ⟨c1, c0⟩ := isD_cnt hm d.path
      rcases hd' with ⟨h2, h3⟩ | ⟨h2, ⟨d0, hd0, hp, h3⟩ | ⟨h3, h4⟩⟩
      · have := hb.refs d h2
        rw [c0 h3]
        omega
      · have := hb.refs d0 hd0
        have e : d.refs = d0.refs + 1 := by rw [h3]
        rw [c1 h2, ← hp]
        omega
      · have e : d.refs = 1 := by rw [h4]
        have z : cnt2 (entsOf b.packs) d.path = 0 := by
          apply Decidable.byContradiction
          intro hz
          obtain ⟨y, hy, hy1, hy2⟩ := cnt2_pos.1 (show 1 ≤ cnt2 (entsOf b.packs) d.path by omega)
          obtain ⟨d0, hd0, e0⟩ := hb.all y hy hy2
          exact h3 d0 hd0 (e0.trans hy1)
        rw [c1 h2, z]
        omega
    · have hx := hpe.mem_iff.1 hx
      show ∃ d ∈ addDirs mk m.ents b.dirs, d.path = x.path
      by_cases c : isD m.ents x.path
      · by_cases q : ∃ d ∈ b.dirs, d.path = x.path
        · obtain ⟨d, hd, e⟩ := q
          exact ⟨⟨x.path, d.refs + 1, d.made⟩, (addDirs_mem (ents_ris hm) hb.paths _).2 (.inr ⟨c, .inl ⟨d, hd, e, rfl⟩⟩), rfl⟩
        · exact ⟨⟨x.path, 1, mk x.path⟩, (addDirs_mem (ents_ris hm) hb.paths _).2 (.inr ⟨c, .inr ⟨fun d hd e => q ⟨d, hd, e⟩, rfl⟩⟩), rfl⟩
      · rw [List.mem_append] at hx
        rcases hx with hx | hx
        · exact absurd ⟨x, hx, rfl, hk⟩ c
        · obtain ⟨d, hd, e⟩ := hb.all x hx hk
          exact ⟨d, (addDirs_mem (ents_ris hm) hb.paths d).2 (.inl ⟨hd, by rw [e]; exact c⟩), e⟩
  constructor
  · intro h x hx
    have h1 := hone.1 h.one
    refine ⟨ownM_no.2 fun n hn' => ?_, fun hd => ?_⟩
    · rw [← Bool.not_eq_true]
      intro hf
      obtain ⟨y, hy, e, hk⟩ := fileB_yes hf
      exact hk (h1 x hx y (mem_ents.2 ⟨n, hn', hy⟩) e.symm).2
    · obtain ⟨d, hd, e⟩ := dirIx_iff.1 hd
      obtain ⟨r1, r2⟩ := hb.refs d hd
      obtain ⟨y, hy, hy1, hy2⟩ := cnt2_pos.1 (show 1 ≤ cnt2 (entsOf b.packs) d.path by omega)
      exact (h1 x hx y hy (e.symm.trans hy1.symm)).1
  · intro h
    refine key (hone.2 fun x hx y hy e => ?_)
    obtain ⟨h1, h2⟩ := h x hx
    obtain ⟨n, hn', hy⟩ := mem_ents.1 hy
    have hf := ownM_no.1 h1 n hn'
    rw [e, fileB_of (hok n hn') hy] at hf
    have hk : y.kind = 2 := by simpa using hf
    obtain ⟨d, hd, e2⟩ := hb.all y (mem_ents.2 ⟨n, hn', hy⟩) hk
    exact ⟨h2 (dirIx_iff.2 ⟨d, hd, e2.trans e.symm⟩), hk⟩
/-! ### In any order -/
/-! ### What is counted -/
theorem own_ent {b : Bas} (h : BasOk b) {m : Man} (hm : m ∈ b.packs) {x : Ent} (hx : x ∈ m.ents) : ownM b.packs x.path = if x.kind = 2 then ([], false) else (m.name, true) := by
  have hok : ∀ n ∈ b.packs, ManOk n := fun n hn => ManOk.of (h.chk n hn)
  have hr := (ref_ok ⟨h.len, h.chk, h.names⟩).1 h
  obtain ⟨h1, h2⟩ := hr.ent m hm x hx
  by_cases hk : x.kind = 2
  · rw [if_pos hk]
    have := (h1 hk).1
    exact Prod.ext (ownM_none this) this
  · rw [if_neg hk]
    refine Prod.ext (h2 hk) ?_
    cases e : (ownM b.packs x.path).2 with
    | true => rfl
    | false =>
      have := ownM_no.1 e m hm
      rw [fileB_of (hok m hm) hx] at this
      simp [hk] at this
end Go.Proofs.YtjbnmeofjiokeaaGreatDoor.Ev
