/- Plans: what their steps touch, and what the database behind them is. -/
import Derived.Test.YtjbnmeofjiokeaaGreatDoorQH
import Derived.Test.YtjbnmeofjiokeaaGreatDoorPG
set_option linter.all false
namespace Go.Proofs.YtjbnmeofjiokeaaGreatDoor.Ev
open Go.RowKit
open Go.Proofs.YtjbnmeofjiokeaaGreatDoor.Mem
set_option linter.unusedVariables false
set_option linter.unusedSimpArgs false
/-! ### The plans' ways -/
theorem install_cases (b : Bas) (l : List Stt) (m : Man) (ms : List Mbr) : (∃ e : Int, ¬ e = 0 ∧ installM b l m ms = ([], ⟨[], []⟩, e)) ∨
    (BasOk b ∧ (findM b.packs m.name).2 = false ∧ b.packs.length < 32 ∧ (pcomesM ⟨b, l, dMn, m⟩ ms [] []).1 = 0 ∧
      installM b l m ms = ((pcomesM ⟨b, l, dMn, m⟩ ms [] []).2.1, addB b m (fun p => decide (p ∈ (pcomesM ⟨b, l, dMn, m⟩ ms [] []).2.2)), 0)) := by
  unfold installM
  by_cases h1 : BasOk b
  · rw [if_neg (fun h => h h1)]
    by_cases h2 : (findM b.packs m.name).2 = true
    · rw [if_pos h2]; exact .inl ⟨17, by decide, rfl⟩
    · rw [if_neg h2]
      by_cases h3 : 32 ≤ b.packs.length
      · rw [if_pos h3]; exact .inl ⟨3, by decide, rfl⟩
      · rw [if_neg h3]
        by_cases h4 : (pcomesM ⟨b, l, dMn, m⟩ ms [] []).1 = 0
        · rw [if_neg (fun h => h h4)]; exact .inr ⟨h1, by simpa using h2, by omega, h4, rfl⟩
        · rw [if_pos h4]; exact .inl ⟨_, h4, rfl⟩
  · rw [if_pos h1]; exact .inl ⟨1, by decide, rfl⟩
theorem remove_cases (b : Bas) (l : List Stt) (w : List UInt8) : (∃ e : Int, ¬ e = 0 ∧ removeM b l w = ([], ⟨[], []⟩, e)) ∨
    (BasOk b ∧ (findM b.packs w).2 = true ∧ (pgoesL ⟨b, l, (findM b.packs w).1, dMn⟩ (findM b.packs w).1.ents []).1 = 0 ∧
      removeM b l w = (emptM (withoutB b w) b.dirs.reverse (pgoesL ⟨b, l, (findM b.packs w).1, dMn⟩ (findM b.packs w).1.ents []).2, withoutB b w, 0)) := by
  unfold removeM
  by_cases h1 : BasOk b
  · rw [if_neg (fun h => h h1)]
    by_cases h2 : (findM b.packs w).2 = true
    · rw [if_neg (fun h => h h2)]
      by_cases h4 : (pgoesL ⟨b, l, (findM b.packs w).1, dMn⟩ (findM b.packs w).1.ents []).1 = 0
      · rw [if_neg (fun h => h h4)]; exact .inr ⟨h1, h2, h4, rfl⟩
      · rw [if_pos h4]; exact .inl ⟨_, h4, rfl⟩
    · rw [if_pos h2]; exact .inl ⟨18, by decide, rfl⟩
  · rw [if_pos h1]; exact .inl ⟨1, by decide, rfl⟩
theorem upgrade_cases (b : Bas) (l : List Stt) (m : Man) (ms : List Mbr) : (∃ e : Int, ¬ e = 0 ∧ upgradeM b l m ms = ([], ⟨[], []⟩, e)) ∨
    (BasOk b ∧ (findM b.packs m.name).2 = true ∧ ∃ f, f = (findM b.packs m.name).1 ∧ ∃ g, g = pgoesL ⟨b, l, f, m⟩ f.ents [] ∧ g.1 = 0 ∧ ∃ c, c = pcomesM ⟨b, l, f, m⟩ ms g.2 [] ∧ c.1 = 0 ∧ ∃ mk : List UInt8 → Bool,
      upgradeM b l m ms = (emptM (addB (withoutB b m.name) m mk) b.dirs.reverse c.2.1, addB (withoutB b m.name) m mk, 0)) := by
  unfold upgradeM
  by_cases h1 : BasOk b
  · rw [if_neg (fun h => h h1)]
    by_cases h2 : (findM b.packs m.name).2 = true
    · rw [if_neg (fun h => h h2)]
      by_cases h3 : (pgoesL ⟨b, l, (findM b.packs m.name).1, m⟩ (findM b.packs m.name).1.ents []).1 = 0
      · rw [if_neg (fun h => h h3)]
        by_cases h4 : (pcomesM ⟨b, l, (findM b.packs m.name).1, m⟩ ms (pgoesL ⟨b, l, (findM b.packs m.name).1, m⟩ (findM b.packs m.name).1.ents []).2 []).1 = 0
        · rw [if_neg (fun h => h h4)]; exact .inr ⟨h1, h2, _, rfl, _, rfl, h3, _, rfl, h4, _, rfl⟩
        · rw [if_pos h4]; exact .inl ⟨_, h4, rfl⟩
      · rw [if_pos h3]; exact .inl ⟨_, h3, rfl⟩
    · rw [if_pos h2]; exact .inl ⟨18, by decide, rfl⟩
  · rw [if_pos h1]; exact .inl ⟨1, by decide, rfl⟩
/-! ### What comes -/
theorem pcomes_zero {q : Mak} {ms : List Mbr} {s : List Stp} {md : List (List UInt8)} (h : (pcomesM q ms s md).1 = 0) : pcomesM q ms s md = pcomesL q ms q.next.ents 0 s md := by
  unfold pcomesM at h ⊢
  split at h
  · simp at h
  · rename_i h1; rw [if_neg h1]
theorem spare_own {q : Mak} {w : List UInt8} (h : spareM q w = 0) : (ownM q.base.packs w).2 = false := by
  unfold spareM at h
  split at h
  · rename_i h1; exact absurd h h1
  · split at h
    · simp at h
    · rename_i h1
      cases e : (ownM q.base.packs w).2 with
      | false => rfl
      | true => exact absurd (.inl e) h1
theorem bring_kp (w : List UInt8) (x : Ent) (m : Mbr) : (bringS w x m).path = w ∧ ¬ (bringS w x m).kind = 6 := by
  obtain ⟨h1, h2⟩ := bringS_kind w x m
  refine ⟨h1, ?_⟩
  rw [h2]
  split
  · decide
  · split <;> decide
/-- One entry that comes touches its own path, or one beside it that nobody has. -/
def nearS (q : Mak) (x : Ent) (y : Stp) : Prop := ¬ y.kind = 6 ∧ (y.path = x.path ∨ (y.path = x.path ++ [46, 110, 101, 119] ∧ (ownM q.base.packs y.path).2 = false))
theorem near_bring (q : Mak) (x : Ent) (m : Mbr) : nearS q x (bringS x.path x m) := ⟨(bring_kp _ x m).2, .inl (bring_kp _ x m).1⟩
theorem pconf_in {q : Mak} {was : Ent} {t : Stt} {x : Ent} {m : Mbr} {s : List Stp} (h : (pconfM q was t x m s).1 = 0) : ∃ u, (pconfM q was t x m s).2 = s ++ u ∧ ∀ y ∈ u, nearS q x y := by
  unfold pconfM at h ⊢
  split
  · exact ⟨_, rfl, fun y hy => by rw [List.mem_singleton.1 hy]; exact near_bring q x m⟩
  · rename_i h1
    rw [if_neg h1] at h
    split
    · rename_i h2
      rw [if_pos h2] at h
      split
      · rename_i h3; rw [if_pos h3] at h; exact absurd h h3
      · rename_i h3
        refine ⟨_, rfl, fun y hy => ?_⟩
        rw [List.mem_singleton.1 hy]
        obtain ⟨k1, k2⟩ := bring_kp (x.path ++ [46, 110, 101, 119]) x m
        exact ⟨k2, .inr ⟨k1, by rw [k1]; exact spare_own (Decidable.not_not.1 h3)⟩⟩
    · exact ⟨[], (List.append_nil _).symm, fun y hy => by simp at hy⟩
theorem pent_in {q : Mak} {x : Ent} {m : Mbr} {s : List Stp} {md : List (List UInt8)} (h : (pentM q x m s md).1 = 0) :
    (x.kind = 2 → (ownM q.base.packs x.path).2 = false) ∧ (¬ x.kind = 2 → ((ownM q.base.packs x.path).2 = true → (ownM q.base.packs x.path).1 = q.old.name) ∧ dirIx q.base.dirs x.path = false) ∧
    ∃ u, (pentM q x m s md).2.1 = s ++ u ∧ ∀ y ∈ u, nearS q x y := by
  unfold pentM at h ⊢
  by_cases hk : x.kind = 2
  · rw [if_pos hk] at h ⊢
    unfold pdirM at h ⊢
    by_cases h1 : (hasM q.old.ents x.path).2 = true ∧ ¬ (hasM q.old.ents x.path).1.kind = 2
    · rw [if_pos h1] at h; simp at h
    · rw [if_neg h1] at h ⊢
      by_cases h2 : (ownM q.base.packs x.path).2 = true ∨ ((atM q.tree x.path).2 = true ∧ ¬ (atM q.tree x.path).1.kind = 2)
      · rw [if_pos h2] at h; simp at h
      · rw [if_neg h2] at h ⊢
        refine ⟨fun _ => by simpa using fun e => h2 (.inl e), fun h => absurd hk h, ?_⟩
        split
        · exact ⟨[], (List.append_nil _).symm, fun y hy => by simp at hy⟩
        · exact ⟨_, rfl, fun y hy => by rw [List.mem_singleton.1 hy]; exact near_bring q x m⟩
  · rw [if_neg hk] at h ⊢
    dsimp only at h ⊢
    refine ⟨fun h => absurd h hk, ?_⟩
    unfold pthingM at h ⊢
    by_cases h1 : (ownM q.base.packs x.path).2 = true ∧ ¬ (ownM q.base.packs x.path).1 = q.old.name
    · rw [if_pos h1] at h; simp at h
    · rw [if_neg h1] at h ⊢
      by_cases h2 : (hasM q.old.ents x.path).2 = true ∧ (hasM q.old.ents x.path).1.kind = 2
      · rw [if_pos h2] at h; simp at h
      · rw [if_neg h2] at h ⊢
        by_cases h3 : dirIx q.base.dirs x.path = true
        · rw [if_pos h3] at h; simp at h
        · rw [if_neg h3] at h ⊢
          refine ⟨fun _ => ⟨fun e => Decidable.byContradiction fun e2 => h1 ⟨e, e2⟩, by simpa using h3⟩, ?_⟩
          by_cases h4 : ¬ (atM q.tree x.path).2 = true
          · rw [if_pos h4]
            exact ⟨_, rfl, fun y hy => by rw [List.mem_singleton.1 hy]; exact near_bring q x m⟩
          · rw [if_neg h4] at h ⊢
            by_cases h5 : ¬ (hasM q.old.ents x.path).2 = true
            · rw [if_pos h5] at h; simp at h
            · rw [if_neg h5] at h ⊢
              by_cases h6 : (atM q.tree x.path).1.kind = 2
              · rw [if_pos h6] at h; simp at h
              · rw [if_neg h6] at h ⊢
                by_cases h7 : (hasM q.old.ents x.path).1.kind = 5 ∧ x.kind = 5 ∧ (atM q.tree x.path).1.kind = 1
                · rw [if_pos h7] at h ⊢
                  exact pconf_in h
                · rw [if_neg h7]
                  dsimp only
                  split
                  · refine ⟨[cutS x.path, bringS x.path x m], by simp, fun y hy => ?_⟩
                    simp only [List.mem_cons, List.not_mem_nil, or_false] at hy
                    rcases hy with rfl | rfl
                    · exact ⟨show ¬ (4 : Int) = 6 by decide, .inl rfl⟩
                    · exact near_bring q x m
                  · exact ⟨_, rfl, fun y hy => by rw [List.mem_singleton.1 hy]; exact near_bring q x m⟩
theorem comes_in {q : Mak} {ms : List Mbr} : ∀ (E : List Ent) (i : Nat) (s : List Stp) (md : List (List UInt8)), (pcomesL q ms E i s md).1 = 0 →
    (∀ x ∈ E, (x.kind = 2 → (ownM q.base.packs x.path).2 = false) ∧ (¬ x.kind = 2 → ((ownM q.base.packs x.path).2 = true → (ownM q.base.packs x.path).1 = q.old.name) ∧ dirIx q.base.dirs x.path = false)) ∧
    ∃ u, (pcomesL q ms E i s md).2.1 = s ++ u ∧ ∀ y ∈ u, ∃ x ∈ E, nearS q x y
  | [], i, s, md, h => ⟨fun x hx => by simp at hx, [], (List.append_nil _).symm, fun y hy => by simp at hy⟩
  | x :: r, i, s, md, h => by
    unfold pcomesL at h ⊢
    split at h
    · rename_i h1
      rw [if_pos h1]
      obtain ⟨k1, k2, u, k3, k4⟩ := pent_in h1
      obtain ⟨k5, u', k6, k7⟩ := comes_in r (i + 1) _ _ h
      refine ⟨fun y hy => ?_, u ++ u', by rw [k6, k3, List.append_assoc], fun y hy => ?_⟩
      · rcases List.mem_cons.1 hy with rfl | hy
        · exact ⟨k1, k2⟩
        · exact k5 y hy
      · rcases List.mem_append.1 hy with hy | hy
        · exact ⟨x, by simp, k4 y hy⟩
        · obtain ⟨x', hx, hn⟩ := k7 y hy
          exact ⟨x', by simp [hx], hn⟩
    · rename_i h1; exact absurd h h1
/-! ### What goes -/
def goneS (q : Mak) (x : Ent) (y : Stp) : Prop := (y.path = x.path ∨ (y.path = x.path ++ [46, 115, 97, 118, 101] ∧ (ownM q.base.packs y.path).2 = false)) ∧ (y.kind = 6 → y.target = x.path ++ [46, 115, 97, 118, 101])
theorem goes_in {q : Mak} : ∀ (E : List Ent) (s : List Stp), (pgoesL q E s).1 = 0 → ∃ u, (pgoesL q E s).2 = s ++ u ∧ ∀ y ∈ u, ∃ x ∈ E, ¬ x.kind = 2 ∧ goneS q x y
  | [], s, h => ⟨[], (List.append_nil _).symm, fun y hy => by simp at hy⟩
  | x :: r, s, h => by
    have up : ∀ {v t : List Stp}, (∃ u, v = t ++ u ∧ ∀ y ∈ u, ∃ x ∈ r, ¬ x.kind = 2 ∧ goneS q x y) → ∃ u, v = t ++ u ∧ ∀ y ∈ u, ∃ x' ∈ x :: r, ¬ x'.kind = 2 ∧ goneS q x' y := fun ⟨u, h1, h2⟩ => ⟨u, h1, fun y hy => by obtain ⟨x', h3, h4⟩ := h2 y hy; exact ⟨x', by simp [h3], h4⟩⟩
    unfold pgoesL at h ⊢
    by_cases h1 : (hasM q.next.ents x.path).2 = true ∨ x.kind = 2
    · rw [if_pos h1] at h ⊢; exact up (goes_in r s h)
    · rw [if_neg h1] at h ⊢
      by_cases h2 : ¬ (atM q.tree x.path).2 = true ∨ (atM q.tree x.path).1.kind = 2
      · rw [if_pos h2] at h ⊢; exact up (goes_in r s h)
      · rw [if_neg h2] at h ⊢
        by_cases h3 : chgM x (atM q.tree x.path).1 = false
        · rw [if_pos h3] at h ⊢
          obtain ⟨u, e, hu⟩ := up (goes_in r _ h)
          refine ⟨cutS x.path :: u, by rw [e]; simp, fun y hy => ?_⟩
          rcases List.mem_cons.1 hy with rfl | hy
          · exact ⟨x, by simp, fun e => h1 (.inr e), .inl rfl, fun e => absurd e (show ¬ (4 : Int) = 6 by decide)⟩
          · exact hu y hy
        · rw [if_neg h3] at h ⊢
          by_cases h4 : (saveM q s x.path).1 = 0
          · rw [if_neg (fun h => h h4)] at h ⊢
            obtain ⟨u, e, hu⟩ := up (goes_in r _ h)
            have hs : ∃ u', (saveM q s x.path).2 = s ++ u' ∧ ∀ y ∈ u', goneS q x y := by
              unfold saveM at h4 ⊢
              by_cases h5 : spareM q (x.path ++ [46, 115, 97, 118, 101]) = 0
              · rw [if_neg (fun h => h h5)]
                have ho := spare_own h5
                dsimp only
                split
                · refine ⟨[cutS (x.path ++ [46, 115, 97, 118, 101]), saveS x.path], by simp, fun y hy => ?_⟩
                  simp only [List.mem_cons, List.not_mem_nil, or_false] at hy
                  rcases hy with rfl | rfl
                  · exact ⟨.inr ⟨rfl, ho⟩, fun e => absurd e (show ¬ (4 : Int) = 6 by decide)⟩
                  · exact ⟨.inl rfl, fun _ => rfl⟩
                · refine ⟨[saveS x.path], rfl, fun y hy => ?_⟩
                  rw [List.mem_singleton.1 hy]
                  exact ⟨.inl rfl, fun _ => rfl⟩
              · rw [if_pos h5] at h4; exact absurd h4 h5
            obtain ⟨u', e', hu'⟩ := hs
            refine ⟨u' ++ u, by rw [e, e', List.append_assoc], fun y hy => ?_⟩
            rcases List.mem_append.1 hy with hy | hy
            · exact ⟨x, by simp, fun e => h1 (.inr e), hu' y hy⟩
            · exact hu y hy
          · rw [if_pos h4] at h; exact absurd h h4
theorem empt_in {c : Bas} : ∀ (D : List Shr) (s : List Stp), ∃ u, emptM c D s = s ++ u ∧ ∀ y ∈ u, ∃ d ∈ D, y = rmS d.path ∧ dirIx c.dirs d.path = false
  | [], s => ⟨[], (List.append_nil _).symm, fun y hy => by simp at hy⟩
  | d :: r, s => by
    unfold emptM
    split
    · rename_i h
      obtain ⟨u, e, hu⟩ := empt_in (c := c) r (s ++ [rmS d.path])
      refine ⟨rmS d.path :: u, by rw [e]; simp, fun y hy => ?_⟩
      rcases List.mem_cons.1 hy with rfl | hy
      · exact ⟨d, by simp, rfl, by simpa using h.2⟩
      · obtain ⟨d', h1, h2⟩ := hu y hy
        exact ⟨d', by simp [h1], h2⟩
    · obtain ⟨u, e, hu⟩ := empt_in (c := c) r s
      exact ⟨u, e, fun y hy => by obtain ⟨d', h1, h2⟩ := hu y hy; exact ⟨d', by simp [h1], h2⟩⟩
end Go.Proofs.YtjbnmeofjiokeaaGreatDoor.Ev
namespace Go.Proofs.YtjbnmeofjiokeaaGreatDoor.Ev
open Go.RowKit
open Go.Proofs.YtjbnmeofjiokeaaGreatDoor.Mem
set_option linter.unusedVariables false
set_option linter.unusedSimpArgs false
set_option maxRecDepth 100000
def entN1 : List Man → Nat
  | [] => 0
  | m :: r => m.ents.length + 1 + entN1 r
def great2 (b : Bas) (l : List Stt) (m : Man) (k : List Mbr) : Bool := decide (500 < b.dirs.length + l.length + m.ents.length + k.length + entN1 b.packs)
theorem great_ok (b : Bas) (l : List Stt) (m : Man) (k : List Mbr) (hb : b.Big) (hl : l.length ≤ 100000000000000) (hm : m.ents.length ≤ 100000000000000) (hk : k.length ≤ 100000000000000) : Spec Tryz.prog LL 6 [eBas b, .sl 8 Stt dT l eStt, eMan m, .sl 8 Mbr dMb k eMbr] (.b (great2 b l m k)) := by
  refine spec_of (C := ⟨Tryz.prog, LL, EE, []⟩) (rl := [.b (great2 b l m k)]) (rs := [.tmp 8]) CCx LLs Tryz.func6 rfl (by kernel_rfl) rfl (by kernel_rfl) (Nat.le_of_ble_eq_true rfl) (fun i => rfl) (fun i => by first | rfl | exact (Bool.or_false _).trans (eSd_men _ _)) rfl (by decide) ?_
  refine gj ?_
  have hbp := hb.p
  have hbd := hb.d
  refine lp_hd [4] [4] (fun x : Nat × Nat => [(9, .n .i64 (x.2 : Int)), (10, .n .i64 (x.1 : Int))]) (fun x : Nat × Nat => []) (fun x : Nat × Nat => x.1 ≤ b.packs.length ∧ (x.2 ≤ 500 ∨ x.2 ≤ 500000000000000) ∧ b.dirs.length + l.length + m.ents.length + k.length + entN1 b.packs = x.2 + entN1 (b.packs.drop x.1)) (fun x : Nat × Nat => b.packs.length - x.1) ((0, b.dirs.length + l.length + m.ents.length + k.length)) id (id) ⟨Nat.zero_le _, by dsimp only; omega, rfl⟩ (fits_of (gj ?_) (gj ?_) (gj ?_) (gj ?_) (gj ?_)) ?_
  · first | exact True.intro | exact ⟨rfl, rfl⟩ | exact ⟨rfl, rfl, rfl⟩ | rfl | exact rowc (List.map_id _) | trivial
  · first | exact True.intro | exact ⟨rfl, rfl⟩ | exact ⟨rfl, rfl, rfl⟩ | rfl | exact rowc (List.map_id _) | trivial
  · first | exact True.intro | exact ⟨rfl, rfl⟩ | exact ⟨rfl, rfl, rfl⟩ | rfl | exact rowc (List.map_id _) | trivial
  · first | exact True.intro | exact ⟨rfl, rfl⟩ | exact ⟨rfl, rfl, rfl⟩ | rfl | exact rowc (List.map_id _) | trivial
  · first | exact True.intro | exact ⟨rfl, rfl⟩ | exact ⟨rfl, rfl, rfl⟩ | rfl | exact rowc (List.map_id _) | trivial
  rintro ⟨i, n⟩ ⟨hi, hn, hr⟩
  dsimp only at hi hn hr ⊢
  try refine gj ?_
  refine br (fun e => ?_) (fun e => ?_)
  · rw [drop_at b.packs i dMn (by omega), entN1] at hr
    have hm := (hb.m _ (getD_mem (x := dMn) (show i < b.packs.length by omega))).1.el
    try refine gj ?_
    refine br (fun c => ?_) (fun c => ?_)
    · try refine gj ?_
      refine ⟨(i + 1, n + (b.packs.getD i dMn).ents.length + 1), ⟨by dsimp only; omega, by dsimp only; omega, by dsimp only; omega⟩, (by dsimp only; omega), fits_of (gj ?_) (gj ?_) (gj ?_) (gj ?_) (gj ?_)⟩
      · first | exact True.intro | exact ⟨rfl, rfl⟩ | exact ⟨rfl, rfl, rfl⟩ | rfl | exact rowc (List.map_id _) | trivial
      · first | exact True.intro | exact ⟨rfl, rfl⟩ | exact ⟨rfl, rfl, rfl⟩ | rfl | exact rowc (List.map_id _) | trivial
      · first | exact True.intro | exact ⟨rfl, rfl⟩ | exact ⟨rfl, rfl, rfl⟩ | rfl | exact rowc (List.map_id _) | trivial
      · first | exact True.intro | exact ⟨rfl, rfl⟩ | exact ⟨rfl, rfl, rfl⟩ | rfl | exact rowc (List.map_id _) | trivial
      · first | exact True.intro | exact ⟨rfl, rfl⟩ | exact ⟨rfl, rfl, rfl⟩ | rfl | exact rowc (List.map_id _) | trivial
    · try refine gj ?_
      unfold great2
      have : decide (500 < b.dirs.length + l.length + m.ents.length + k.length + entN1 b.packs) = true := decide_eq_true (by omega)
      rw [this]
      simp
      omega
  · rw [List.drop_eq_nil_of_le (by omega), entN1] at hr
    try refine gj ?_
    unfold great2
    rw [hr, Nat.add_zero]
    simp
    exact ⟨fun h => by omega, fun h => by omega⟩
theorem rat_ok (l : List Stt) (w : List UInt8) (hl : l.length ≤ 100000000000000) : Spec Tryz.prog LL 17 [.sl 8 Stt dT l eStt, .s w] (.tp [eStt (atM l w).1, .b (atM l w).2]) := by
  refine spec_of (C := ⟨Tryz.prog, LL, EE, []⟩) (rl := [eStt (atM l w).1, .b (atM l w).2]) (rs := [.cell 4 55, .tmp 5]) CCx LLs Tryz.func17 rfl (by kernel_rfl) rfl (by kernel_rfl) (Nat.le_of_ble_eq_true rfl) (fun i => rfl) (fun i => by first | rfl | exact (Bool.or_false _).trans (eSd_men _ _)) rfl (by decide) ?_
  refine gj ?_
  refine lp_hd [0, 1, 4] [4] (fun i : Nat => [(6, .n .i64 (i : Int))]) (fun i : Nat => []) (fun i : Nat => i ≤ l.length ∧ atM l w = atM (l.drop i) w) (fun i : Nat => l.length - i) (0) id (id) ⟨Nat.zero_le _, rfl⟩ (fits_of (gj ?_) (gj ?_) (gj ?_) (gj ?_) (gj ?_)) ?_
  · first | exact True.intro | exact ⟨rfl, rfl⟩ | exact ⟨rfl, rfl, rfl⟩ | rfl | exact rowc (List.map_id _) | trivial
  · first | exact True.intro | exact ⟨rfl, rfl⟩ | exact ⟨rfl, rfl, rfl⟩ | rfl | exact rowc (List.map_id _) | trivial
  · first | exact True.intro | exact ⟨rfl, rfl⟩ | exact ⟨rfl, rfl, rfl⟩ | rfl | exact rowc (List.map_id _) | trivial
  · first | exact True.intro | exact ⟨rfl, rfl⟩ | exact ⟨rfl, rfl, rfl⟩ | rfl | exact rowc (List.map_id _) | trivial
  · first | exact True.intro | exact ⟨rfl, rfl⟩ | exact ⟨rfl, rfl, rfl⟩ | rfl | exact rowc (List.map_id _) | trivial
  rintro i ⟨hi, hr⟩
  try refine gj ?_
  refine br (fun e => ?_) (fun e => ?_)
  · rw [drop_at l i dT (by omega), atM] at hr
    try refine gj ?_
    refine br (fun c => ?_) (fun c => ?_)
    · rw [if_pos c] at hr
      try refine gj ?_
      rw [hr]
      exact ⟨le_refl _, rfl⟩
    · rw [if_neg c] at hr
      try refine gj ?_
      refine ⟨i + 1, ⟨by omega, hr⟩, (by omega), fits_of (gj ?_) (gj ?_) (gj ?_) (gj ?_) (gj ?_)⟩
      · first | exact True.intro | exact ⟨rfl, rfl⟩ | exact ⟨rfl, rfl, rfl⟩ | rfl | exact rowc (List.map_id _) | trivial
      · first | exact True.intro | exact ⟨rfl, rfl⟩ | exact ⟨rfl, rfl, rfl⟩ | rfl | exact rowc (List.map_id _) | trivial
      · first | exact True.intro | exact ⟨rfl, rfl⟩ | exact ⟨rfl, rfl, rfl⟩ | rfl | exact rowc (List.map_id _) | trivial
      · first | exact True.intro | exact ⟨rfl, rfl⟩ | exact ⟨rfl, rfl, rfl⟩ | rfl | exact rowc (List.map_id _) | trivial
      · first | exact True.intro | exact ⟨rfl, rfl⟩ | exact ⟨rfl, rfl, rfl⟩ | rfl | exact rowc (List.map_id _) | trivial
  · try refine gj ?_
    rw [hr, List.drop_eq_nil_of_le (by omega)]
    exact ⟨le_refl _, rfl⟩
def near (x : Ent) (w : List UInt8) : Bool := decide (w = x.path) || (decide (w = x.path ++ [46, 110, 101, 119]) || decide (w = x.path ++ [46, 115, 97, 118, 101]))
theorem listed_ok (m : Man) (w : List UInt8) (hm : m.Fit) (hl : m.ents.length ≤ 100000000000000) : Spec Tryz.prog LL 13 [eMan m, .s w] (.b (m.ents.any (near · w))) := by
  refine spec_of (C := ⟨Tryz.prog, LL, EE, []⟩) (rl := [.b (m.ents.any (near · w))]) (rs := [.tmp 4]) CCx LLs Tryz.func13 rfl (by kernel_rfl) rfl (by kernel_rfl) (Nat.le_of_ble_eq_true rfl) (fun i => rfl) (fun i => by first | rfl | exact (Bool.or_false _).trans (eSd_men _ _)) rfl (by decide) ?_
  refine gj ?_
  have hp := hm.es
  refine lp_hd [1, 2] [2] (fun i : Nat => [(5, .n .i64 (i : Int))]) (fun i : Nat => []) (fun i : Nat => i ≤ m.ents.length ∧ m.ents.any (near · w) = (m.ents.drop i).any (near · w)) (fun i : Nat => m.ents.length - i) (0) id (id) ⟨Nat.zero_le _, rfl⟩ (fits_of (gj ?_) (gj ?_) (gj ?_) (gj ?_) (gj ?_)) ?_
  · first | exact True.intro | exact ⟨rfl, rfl⟩ | exact ⟨rfl, rfl, rfl⟩ | rfl | exact rowc (List.map_id _) | trivial
  · first | exact True.intro | exact ⟨rfl, rfl⟩ | exact ⟨rfl, rfl, rfl⟩ | rfl | exact rowc (List.map_id _) | trivial
  · first | exact True.intro | exact ⟨rfl, rfl⟩ | exact ⟨rfl, rfl, rfl⟩ | rfl | exact rowc (List.map_id _) | trivial
  · first | exact True.intro | exact ⟨rfl, rfl⟩ | exact ⟨rfl, rfl, rfl⟩ | rfl | exact rowc (List.map_id _) | trivial
  · first | exact True.intro | exact ⟨rfl, rfl⟩ | exact ⟨rfl, rfl, rfl⟩ | rfl | exact rowc (List.map_id _) | trivial
  rintro i ⟨hi, hr⟩
  try refine gj ?_
  refine br (fun e => ?_) (fun e => ?_)
  · have hx := (hp _ (getD_mem (x := dE) (show i < m.ents.length by omega))).1
    rw [drop_at m.ents i dE (by omega), List.any_cons] at hr
    try refine gj ?_
    generalize m.ents.getD i dE = x at hr hx ⊢
    rw [show near x w = (decide (w = x.path) || (decide (w = x.path ++ [46, 110, 101, 119]) || decide (w = x.path ++ [46, 115, 97, 118, 101]))) from rfl] at hr
    refine br (fun c => ?_) (fun c => ?_)
    · rw [decide_eq_false c, Bool.false_or] at hr
      try refine gj ?_
      refine br (fun c2 => ?_) (fun c2 => ?_)
      · rw [decide_eq_false c2, Bool.false_or] at hr
        try refine gj ?_
        refine br (fun c3 => ?_) (fun c3 => ?_)
        · rw [decide_eq_true c3, Bool.true_or] at hr
          try refine gj ?_
          rw [hr]
        · rw [decide_eq_false c3, Bool.false_or] at hr
          try refine gj ?_
          refine ⟨i + 1, ⟨by omega, hr⟩, (by omega), fits_of (gj ?_) (gj ?_) (gj ?_) (gj ?_) (gj ?_)⟩
          · first | exact True.intro | exact ⟨rfl, rfl⟩ | exact ⟨rfl, rfl, rfl⟩ | rfl | exact rowc (List.map_id _) | trivial
          · first | exact True.intro | exact ⟨rfl, rfl⟩ | exact ⟨rfl, rfl, rfl⟩ | rfl | exact rowc (List.map_id _) | trivial
          · first | exact True.intro | exact ⟨rfl, rfl⟩ | exact ⟨rfl, rfl, rfl⟩ | rfl | exact rowc (List.map_id _) | trivial
          · first | exact True.intro | exact ⟨rfl, rfl⟩ | exact ⟨rfl, rfl, rfl⟩ | rfl | exact rowc (List.map_id _) | trivial
          · first | exact True.intro | exact ⟨rfl, rfl⟩ | exact ⟨rfl, rfl, rfl⟩ | rfl | exact rowc (List.map_id _) | trivial
      · rw [decide_eq_true (Decidable.not_not.1 c2), Bool.true_or, Bool.true_or] at hr
        try refine gj ?_
        rw [hr]
    · rw [decide_eq_true (Decidable.not_not.1 c), Bool.true_or, Bool.true_or] at hr
      try refine gj ?_
      rw [hr]
  · try refine gj ?_
    rw [hr, List.drop_eq_nil_of_le (by omega)]
    rfl
def ml0 : List Mbr := [⟨[120], 2, 493, 0, 0, 0, [], []⟩, ⟨[120, 47, 121], 3, 0, 0, 0, 0, [122], []⟩]
theorem inst_of {b : Bas} {l : List Stt} {m : Man} {ms : List Mbr} {s : List Stp} {md : List (List UInt8)} {e : Int} (h1 : BasOk b) (h2 : (findM b.packs m.name).2 = false) (h3 : b.packs.length < 32) (h4 : pcomesM ⟨b, l, dMn, m⟩ ms [] [] = (e, s, md)) :
    installM b l m ms = if e = 0 then (s, addB b m (fun p => decide (p ∈ md)), 0) else ([], ⟨[], []⟩, e) := by
  unfold installM
  rw [if_neg (fun h => h h1), if_neg (by rw [h2]; simp), if_neg (by omega), h4]
  dsimp only
  by_cases h : e = 0
  · rw [if_neg (fun h' => h' h), if_pos h]
  · rw [if_pos h, if_neg h]
theorem bnil_ok : BasOk ⟨[], []⟩ := ⟨by decide, fun m h => by simp at h, List.Pairwise.nil, List.Pairwise.nil, List.Pairwise.nil, fun m h => by simp at h, fun m h => by simp [entsOf] at h⟩
theorem bnil_big : Bas.Big ⟨[], []⟩ := ⟨by decide, by decide, fun m h => by simp at h, fun m h => by simp at h⟩
theorem in1 : installM ⟨[], []⟩ [] m0 ml0 = ([⟨1, [120], 493, 0, 0, 0, [], []⟩, ⟨3, [120, 47, 121], 0, 0, 0, 0, [], [122]⟩], b0, 0) := by
  rw [inst_of bnil_ok rfl (by decide) (e := 0) (s := [⟨1, [120], 493, 0, 0, 0, [], []⟩, ⟨3, [120, 47, 121], 0, 0, 0, 0, [], [122]⟩]) (md := [[120]]) (by kernel_rfl), if_pos rfl]
  rfl
theorem in2 : installM b0 [] m0 ml0 = ([], ⟨[], []⟩, 17) := by
  unfold installM
  rw [if_neg (fun h => h b0_ok), if_pos (by rfl)]
theorem in3 : installM ⟨[], []⟩ [⟨[120], 1, 0, 0, 0, 0, 0, []⟩] m0 ml0 = ([], ⟨[], []⟩, 14) := by
  rw [inst_of bnil_ok rfl (by decide) (e := 14) (s := []) (md := []) (by kernel_rfl), if_neg (by decide)]
theorem re1 : removeM b0 [⟨[120], 2, 0, 0, 0, 0, 0, []⟩, ⟨[120, 47, 121], 3, 0, 0, 0, 0, 0, [122]⟩] [97] = ([cutS [120, 47, 121], rmS [120]], ⟨[], []⟩, 0) := by
  unfold removeM
  have e1 : (pgoesL ⟨b0, [⟨[120], 2, 0, 0, 0, 0, 0, []⟩, ⟨[120, 47, 121], 3, 0, 0, 0, 0, 0, [122]⟩], (findM b0.packs [97]).1, dMn⟩ (findM b0.packs [97]).1.ents []) = (0, [cutS [120, 47, 121]]) := by kernel_rfl
  rw [if_neg (fun h => h b0_ok), if_neg (by decide), e1, if_neg (by decide)]
  have hw : withoutB b0 [97] = ⟨[], []⟩ := by
    show Bas.mk _ _ = Bas.mk _ _
    exact congr (congrArg Bas.mk (by rfl)) (by rfl)
  rw [hw]
  rfl
set_option maxHeartbeats 4000000 in
theorem awake_ok  : Spec Tryz.prog LL 7 [] (.b true) := by
  refine spec_of (C := ⟨Tryz.prog, LL, EE, []⟩) (rl := [.b true]) (rs := [.tmp 0]) CCx LLs Tryz.func7 rfl (by kernel_rfl) rfl (by kernel_rfl) (Nat.le_of_ble_eq_true rfl) (fun i => rfl) (fun i => by first | rfl | exact (Bool.or_false _).trans (eSd_men _ _)) rfl (by decide) ?_
  refine gj ?_
  refine .inr ?_
  try refine gj ?_
  refine .inr ?_
  try refine gj ?_
  refine cln (install_ok ⟨[], []⟩ [] m0 ml0 bnil_big (by decide) (fun s h => by simp at h) m0_fb (by decide) (by decide)) (gj ?_) ?_
  · repeat' apply And.intro
    all_goals first | exact le_refl _ | exact le_nl | trivial
  rw [in1]
  try refine gj ?_
  refine cln (install_ok b0 [] m0 ml0 b0_big (by decide) (fun s h => by simp at h) m0_fb (by decide) (by decide)) (gj ?_) ?_
  · repeat' apply And.intro
    all_goals first | exact le_refl _ | exact le_nl | trivial
  rw [in2]
  try refine gj ?_
  refine .inr ?_
  try refine gj ?_
  refine cln (install_ok ⟨[], []⟩ [⟨[120], 1, 0, 0, 0, 0, 0, []⟩] m0 ml0 bnil_big (by decide) (fun s h => by simp at h; subst h; decide) m0_fb (by decide) (by decide)) (gj ?_) ?_
  · repeat' apply And.intro
    all_goals first | exact le_refl _ | exact le_nl | trivial
  rw [in3]
  try refine gj ?_
  refine .inr ?_
  try refine gj ?_
  refine cln (remove_ok b0 [⟨[120], 2, 0, 0, 0, 0, 0, []⟩, ⟨[120, 47, 121], 3, 0, 0, 0, 0, 0, [122]⟩] [97] b0_big (by decide) (fun s h => by simp at h; rcases h with rfl | rfl <;> decide)) (gj ?_) ?_
  · repeat' apply And.intro
    all_goals first | exact le_refl _ | exact le_nl | trivial
  rw [re1]
  try refine gj ?_
  iterate 8 (first | (refine br (fun _ => ?_) (fun c => absurd (by rfl) c); refine gj ?_) | skip)
  trivial
end Go.Proofs.YtjbnmeofjiokeaaGreatDoor.Ev
namespace Go.Proofs.YtjbnmeofjiokeaaGreatDoor.Ev
open Go.RowKit
open Go.Proofs.YtjbnmeofjiokeaaGreatDoor.Mem
set_option linter.unusedVariables false
set_option linter.unusedSimpArgs false
theorem name_some {b : Bas} (h : BasOk b) {y : Man} (hy : y ∈ b.packs) : ¬ y.name = [] := fun e => by
  have := (ManOk.of (h.chk y hy)).n
  rw [e] at this
  exact absurd this (by decide)
theorem own_some {l : List Man} {p : List UInt8} (h : (ownM l p).2 = true) : ∃ y ∈ l, (ownM l p).1 = y.name ∧ fileB y.ents p = true := by
  induction l with
  | nil => simp [ownM] at h
  | cons m r ih =>
    unfold ownM at h ⊢
    split at h
    · rename_i e; rw [if_pos e]; exact ⟨m, by simp, rfl, e⟩
    · rename_i e; rw [if_neg e]; obtain ⟨y, h1, h2⟩ := ih h; exact ⟨y, by simp [h1], h2⟩
theorem dir_own {b : Bas} (h : BasOk b) {d : Shr} (hd : d ∈ b.dirs) : (ownM b.packs d.path).2 = false := by
  obtain ⟨r1, r2⟩ := h.refs d hd
  obtain ⟨x, hx, hx2, hk⟩ := cnt2_pos.1 (show 1 ≤ cnt2 (entsOf b.packs) d.path by omega)
  obtain ⟨m, hm, hx⟩ := mem_ents.1 hx
  have := own_ent h hm hx
  rw [if_pos hk, hx2] at this
  rw [this]
theorem dirIx_mem {l : List Shr} {p : List UInt8} : dirIx l p = true ↔ ∃ d ∈ l, d.path = p := by
  unfold dirIx
  rw [List.any_eq_true]
  simp only [decide_eq_true_eq]
theorem dir_went {b : Bas} {n : List UInt8} {d : Shr} (hd : d ∈ b.dirs) (h : dirIx (withoutB b n).dirs d.path = false) : dirB2 (findM b.packs n).1.ents d.path = true := by
  cases e : dirB2 (findM b.packs n).1.ents d.path with
  | true => rfl
  | false =>
    have : dirIx (withoutB b n).dirs d.path = true := dirIx_mem.2 ⟨d, List.mem_filterMap.2 ⟨d, hd, by unfold goD; rw [e, if_neg (by decide)]⟩, rfl⟩
    rw [h] at this
    cases this
theorem dirIx_add {mk : List UInt8 → Bool} {p : List UInt8} : ∀ {E : List Ent} {l : List Shr}, dirIx l p = true → dirIx (addDirs mk E l) p = true
  | [], l, h => h
  | x :: r, l, h => by
    unfold addDirs
    refine dirIx_add ?_
    split
    · unfold joinM
      split
      · obtain ⟨d, h1, h2⟩ := dirIx_mem.1 h
        have : p ∈ (bump l x.path).map (·.path) := by rw [bump_paths, ← h2]; exact List.mem_map_of_mem h1
        obtain ⟨e, h3, h4⟩ := List.mem_map.1 this
        exact dirIx_mem.2 ⟨e, h3, h4⟩
      · obtain ⟨d, h1, h2⟩ := dirIx_mem.1 h
        exact dirIx_mem.2 ⟨d, insS_mem.2 (.inr h1), h2⟩
    · exact h
/-- What a step may touch. -/
def mayS (b : Bas) (m : Man) (s : Stp) : Prop := ((findM b.packs m.name).1.ents.any (near · s.path) = true ∨ m.ents.any (near · s.path) = true) ∧ ((ownM b.packs s.path).2 = true → (ownM b.packs s.path).1 = m.name) ∧ (s.kind = 6 → (findM b.packs m.name).1.ents.any (near · s.target) = true)
theorem near_new {x : Ent} {w : List UInt8} (h : w = x.path ∨ w = x.path ++ [46, 110, 101, 119]) : near x w = true := by
  unfold near
  rcases h with h | h
  · rw [decide_eq_true h, Bool.true_or]
  · rw [decide_eq_true h, Bool.true_or, Bool.or_true]
theorem near_save {x : Ent} {w : List UInt8} (h : w = x.path ∨ w = x.path ++ [46, 115, 97, 118, 101]) : near x w = true := by
  unfold near
  rcases h with h | h
  · rw [decide_eq_true h, Bool.true_or]
  · rw [decide_eq_true h, Bool.or_true, Bool.or_true]
theorem install_only (b : Bas) (l : List Stt) (m : Man) (ms : List Mbr) : ∀ s ∈ (installM b l m ms).1, mayS b m s := by
  rcases install_cases b l m ms with ⟨e, _, h⟩ | ⟨hb, hf, _, hc, h⟩
  · rw [h]; exact fun s hs => by simp at hs
  · rw [h]
    have e0 := pcomes_zero hc
    rw [e0] at hc ⊢
    obtain ⟨k1, u, k2, k3⟩ := comes_in _ _ _ _ hc
    dsimp only at k1 k2 k3 ⊢
    rw [k2]
    intro s hs
    obtain ⟨x, hx, hk, hp⟩ := k3 s hs
    have own : (ownM b.packs x.path).2 = true → False := fun e => by
      by_cases h2 : x.kind = 2
      · rw [(k1 x hx).1 h2] at e; cases e
      · obtain ⟨y, hy, e2, _⟩ := own_some e
        exact name_some hb hy (by rw [← e2]; exact ((k1 x hx).2 h2).1 e)
    refine ⟨.inr (List.any_eq_true.2 ⟨x, hx, near_new (by rcases hp with h | h; exact .inl h; exact .inr h.1)⟩), fun e => ?_, fun e => absurd e hk⟩
    rcases hp with h | h
    · rw [h] at e; exact (own e).elim
    · rw [h.2] at e; cases e
theorem find_name {b : Bas} {n : List UInt8} (h : (findM b.packs n).2 = true) : (findM b.packs n).1 ∈ b.packs ∧ (findM b.packs n).1.name = n := find_in h
theorem empt_only {b : Bas} {m : Man} {c : Bas} {d : Shr} (hb : BasOk b) (hd : d ∈ b.dirs) (h : dirIx (withoutB b m.name).dirs d.path = false) : mayS b m (rmS d.path) := by
  refine ⟨.inl ?_, fun e => ?_, fun e => absurd e (show ¬ (5 : Int) = 6 by decide)⟩
  · have := dir_went hd h
    unfold dirB2 at this
    rw [Bool.and_eq_true] at this
    obtain ⟨h1, h2⟩ := hasM_mem this.1
    exact List.any_eq_true.2 ⟨_, h1, near_new (.inl h2.symm)⟩
  · have : (ownM b.packs d.path).2 = true := e
    rw [dir_own hb hd] at this
    cases this
theorem gone_only {b : Bas} {l : List Stt} {m n : Man} {x : Ent} {s : Stp} (hb : BasOk b) (hf : (findM b.packs m.name).2 = true) (hx : x ∈ (findM b.packs m.name).1.ents) (hk : ¬ x.kind = 2) (h : goneS ⟨b, l, (findM b.packs m.name).1, n⟩ x s) : mayS b m s := by
  obtain ⟨f1, f2⟩ := find_name hf
  obtain ⟨hp, ht⟩ := h
  refine ⟨.inl (List.any_eq_true.2 ⟨x, hx, near_save (by rcases hp with h | h; exact .inl h; exact .inr h.1)⟩), fun e => ?_, fun e => List.any_eq_true.2 ⟨x, hx, near_save (.inr (ht e))⟩⟩
  rcases hp with h | h
  · rw [h, own_ent hb f1 hx, if_neg hk]
    exact f2
  · have := h.2
    dsimp only at this
    rw [this] at e
    cases e
theorem remove_only (b : Bas) (l : List Stt) (m : Man) : ∀ s ∈ (removeM b l m.name).1, mayS b m s := by
  rcases remove_cases b l m.name with ⟨e, _, h⟩ | ⟨hb, hf, hg, h⟩
  · rw [h]; exact fun s hs => by simp at hs
  · rw [h]
    obtain ⟨u, k1, k2⟩ := goes_in _ _ hg
    obtain ⟨v, k3, k4⟩ := empt_in (c := withoutB b m.name) b.dirs.reverse (pgoesL ⟨b, l, (findM b.packs m.name).1, dMn⟩ (findM b.packs m.name).1.ents []).2
    dsimp only
    rw [k3, k1]
    intro s hs
    rcases List.mem_append.1 hs with hs | hs
    · obtain ⟨x, hx, hk, hn⟩ := k2 s (by simpa using hs)
      exact gone_only hb hf hx hk hn
    · obtain ⟨d, hd, rfl, hn⟩ := k4 s hs
      exact empt_only (c := b) hb (List.mem_reverse.1 hd) hn
theorem upgrade_only (b : Bas) (l : List Stt) (m : Man) (ms : List Mbr) : ∀ s ∈ (upgradeM b l m ms).1, mayS b m s := by
  rcases upgrade_cases b l m ms with ⟨e, _, h⟩ | ⟨hb, hf, f, rfl, g, rfl, hg, c, rfl, hc, mk, h⟩
  · rw [h]; exact fun s hs => by simp at hs
  · rw [h]
    obtain ⟨f1, f2⟩ := find_name hf
    have e0 := pcomes_zero hc
    rw [e0] at hc ⊢
    obtain ⟨c1, w, c2, c3⟩ := comes_in _ _ _ _ hc
    obtain ⟨u, k1, k2⟩ := goes_in _ _ hg
    obtain ⟨v, k3, k4⟩ := empt_in (c := addB (withoutB b m.name) m mk) b.dirs.reverse (pcomesL ⟨b, l, (findM b.packs m.name).1, m⟩ ms m.ents 0 (pgoesL ⟨b, l, (findM b.packs m.name).1, m⟩ (findM b.packs m.name).1.ents []).2 []).2.1
    dsimp only at c1 c2 c3 ⊢
    rw [k3, c2, k1]
    intro s hs
    rcases List.mem_append.1 hs with hs | hs
    · rcases List.mem_append.1 hs with hs | hs
      · obtain ⟨x, hx, hk, hn⟩ := k2 s (by simpa using hs)
        exact gone_only hb hf hx hk hn
      · obtain ⟨x, hx, hk, hp⟩ := c3 s hs
        refine ⟨.inr (List.any_eq_true.2 ⟨x, hx, near_new (by rcases hp with h | h; exact .inl h; exact .inr h.1)⟩), fun e => ?_, fun e => absurd e hk⟩
        rcases hp with h | h
        · rw [h] at e ⊢
          by_cases h2 : x.kind = 2
          · rw [(c1 x hx).1 h2] at e; cases e
          · rw [((c1 x hx).2 h2).1 e, f2]
        · rw [h.2] at e; cases e
    · obtain ⟨d, hd, rfl, hn⟩ := k4 s hs
      refine empt_only (c := b) hb (List.mem_reverse.1 hd) ?_
      cases e : dirIx (withoutB b m.name).dirs d.path with
      | false => rfl
      | true =>
        have : dirIx (addB (withoutB b m.name) m mk).dirs d.path = true := dirIx_add e
        rw [hn] at this
        cases this
/-! ### The database behind -/
theorem without_ins {b : Bas} (h : BasOk b) {n : List UInt8} (hn : (findM b.packs n).2 = true) : b.packs = insM (withoutB b n).packs (findM b.packs n).1 := by
  obtain ⟨f1, f2⟩ := find_name hn
  have hs : (withoutB b n).packs.Sublist b.packs := List.filter_sublist
  refine man_eq h.names (insM_ris (h.names.sublist (hs.map _)) fun x hx => ?_) fun x => ?_
  · rw [f2]; simpa using (List.mem_filter.1 hx).2
  · rw [insM_mem]
    constructor
    · intro hx
      by_cases e : x.name = n
      · left
        have := findM_of h.names x hx
        rw [e] at this
        rw [this]
      · exact .inr (List.mem_filter.2 ⟨hx, decide_eq_true e⟩)
    · rintro (rfl | hx)
      · exact f1
      · exact hs.subset hx
theorem ents_sub {l l' : List Man} (h : l.Sublist l') : (entsOf l).Sublist (entsOf l') := by
  induction h with
  | slnil => exact List.Sublist.refl _
  | cons a h ih => exact ih.trans (List.sublist_append_right a.ents _)
  | cons_cons a h ih => exact (List.Sublist.refl a.ents).append ih
theorem without_ok {b : Bas} (h : BasOk b) {n : List UInt8} (hn : (findM b.packs n).2 = true) : BasOk (withoutB b n) := by
  obtain ⟨f1, f2⟩ := find_name hn
  have hs : (withoutB b n).packs.Sublist b.packs := List.filter_sublist
  have hf := ManOk.of (h.chk _ f1)
  have hp : (entsOf b.packs).Perm ((findM b.packs n).1.ents ++ entsOf (withoutB b n).packs) := by
    have := insM_ents (withoutB b n).packs (findM b.packs n).1
    rwa [← without_ins h hn] at this
  have hcnt : ∀ p, cnt2 (entsOf b.packs) p = cnt2 (findM b.packs n).1.ents p + cnt2 (entsOf (withoutB b n).packs) p := fun p => by rw [cnt2_perm hp, cnt2_app]
  refine ⟨Nat.le_trans hs.length_le h.len, fun m hm => h.chk m (hs.subset hm), h.names.sublist (hs.map _), ?_, goD_ris h.paths, fun d hd => ?_, fun x hx hk => ?_⟩
  · exact h.one.sublist (ents_sub hs)
  · obtain ⟨e, he, hx⟩ := List.mem_filterMap.1 hd
    obtain ⟨r1, r2⟩ := h.refs e he
    have hc := hcnt e.path
    obtain ⟨i1, i2⟩ := isD_cnt hf e.path
    unfold goD at hx
    split at hx
    · rename_i hdir
      have := i1 ((dirB2_iff hf).1 hdir)
      split at hx
      · simp at hx
      · simp only [Option.some.injEq] at hx
        rw [← hx]
        dsimp only
        omega
    · rename_i hdir
      have := i2 (fun h => hdir ((dirB2_iff hf).2 h))
      simp only [Option.some.injEq] at hx
      rw [← hx]
      omega
  · obtain ⟨m, hm, hx⟩ := mem_ents.1 hx
    obtain ⟨d, hd, e⟩ := h.all x (mem_ents.2 ⟨m, hs.subset hm, hx⟩) hk
    obtain ⟨r1, r2⟩ := h.refs d hd
    have hc := hcnt d.path
    have h1 : 1 ≤ cnt2 (entsOf (withoutB b n).packs) d.path := cnt2_pos.2 ⟨x, mem_ents.2 ⟨m, hm, hx⟩, e.symm, hk⟩
    obtain ⟨i1, i2⟩ := isD_cnt hf d.path
    by_cases hdir : dirB2 (findM b.packs n).1.ents d.path = true
    · have := i1 ((dirB2_iff hf).1 hdir)
      exact ⟨⟨d.path, d.refs - 1, d.made⟩, List.mem_filterMap.2 ⟨d, hd, by unfold goD; rw [if_pos hdir, if_neg (by omega)]⟩, e⟩
    · exact ⟨d, List.mem_filterMap.2 ⟨d, hd, by unfold goD; rw [if_neg hdir]⟩, e⟩
theorem install_base {b : Bas} {l : List Stt} {m : Man} {ms : List Mbr} (hc : checkM m = 0) (h : (installM b l m ms).2.2 = 0) :
    BasOk b ∧ (findM b.packs m.name).2 = false ∧ ∃ mk, (installM b l m ms).2.1 = addB b m mk ∧ BasOk (addB b m mk) := by
  rcases install_cases b l m ms with ⟨e, h1, h2⟩ | ⟨hb, hf, hl, hz, h2⟩
  · rw [h2] at h; exact absurd h h1
  · refine ⟨hb, hf, _, by rw [h2], (comes_ok hb hc (findM_no.1 hf) hl).2 fun x hx => ?_⟩
    have e0 := pcomes_zero hz
    rw [e0] at hz
    have k1 := (comes_in _ _ _ _ hz).1 x hx
    dsimp only at k1
    by_cases h2 : x.kind = 2
    · exact ⟨k1.1 h2, fun _ => h2⟩
    · obtain ⟨k2, k3⟩ := k1.2 h2
      refine ⟨?_, fun e => by rw [k3] at e; cases e⟩
      cases e : (ownM b.packs x.path).2 with
      | false => rfl
      | true =>
        obtain ⟨y, hy, e2, _⟩ := own_some e
        exact absurd (by rw [← e2]; exact k2 e) (name_some hb hy)
theorem remove_base {b : Bas} {l : List Stt} {n : List UInt8} (h : (removeM b l n).2.2 = 0) : BasOk b ∧ (findM b.packs n).2 = true ∧ (removeM b l n).2.1 = withoutB b n ∧ BasOk (withoutB b n) := by
  rcases remove_cases b l n with ⟨e, h1, h2⟩ | ⟨hb, hf, _, h2⟩
  · rw [h2] at h; exact absurd h h1
  · exact ⟨hb, hf, by rw [h2], without_ok hb hf⟩
theorem without_no {b : Bas} {n : List UInt8} : ∀ x ∈ (withoutB b n).packs, x.name ≠ n := fun x hx => by simpa using (List.mem_filter.1 hx).2
theorem upgrade_base {b : Bas} {l : List Stt} {m : Man} {ms : List Mbr} (hc : checkM m = 0) (h : (upgradeM b l m ms).2.2 = 0) :
    BasOk b ∧ (findM b.packs m.name).2 = true ∧ ∃ mk, (upgradeM b l m ms).2.1 = addB (withoutB b m.name) m mk ∧ BasOk (addB (withoutB b m.name) m mk) := by
  rcases upgrade_cases b l m ms with ⟨e, h1, h2⟩ | ⟨hb, hf, f, rfl, g, rfl, hg, c, rfl, hz, mk, h2⟩
  · rw [h2] at h; exact absurd h h1
  · obtain ⟨f1, f2⟩ := find_name hf
    have hs : (withoutB b m.name).packs.Sublist b.packs := List.filter_sublist
    have hlen : (withoutB b m.name).packs.length + 1 = b.packs.length := by
      have := insM_len (withoutB b m.name).packs (findM b.packs m.name).1
      rw [← without_ins hb hf] at this
      exact this.symm
    have h32 := hb.len
    refine ⟨hb, hf, mk, by rw [h2], (comes_ok (without_ok hb hf) hc without_no (by omega)).2 fun x hx => ?_⟩
    have e0 := pcomes_zero hz
    rw [e0] at hz
    have k1 := (comes_in _ _ _ _ hz).1 x hx
    dsimp only at k1
    have own : (ownM (withoutB b m.name).packs x.path).2 = true → ∃ y ∈ (withoutB b m.name).packs, ownM b.packs x.path = (y.name, true) := fun e => by
      obtain ⟨y, hy, _, e3⟩ := own_some e
      obtain ⟨z, hz1, hz2, hz3⟩ := fileB_yes e3
      have := own_ent hb (hs.subset hy) hz1
      rw [hz2, if_neg hz3] at this
      exact ⟨y, hy, this⟩
    have hdx : dirIx (withoutB b m.name).dirs x.path = true → dirIx b.dirs x.path = true := fun e => by
      obtain ⟨d, hd, e1⟩ := dirIx_mem.1 e
      obtain ⟨d', hd', e2⟩ := List.mem_filterMap.1 hd
      refine dirIx_mem.2 ⟨d', hd', ?_⟩
      rw [← e1]
      unfold goD at e2
      split at e2
      · split at e2
        · simp at e2
        · simp only [Option.some.injEq] at e2; rw [← e2]
      · simp only [Option.some.injEq] at e2; rw [e2]
    by_cases h2 : x.kind = 2
    · refine ⟨?_, fun _ => h2⟩
      cases e : (ownM (withoutB b m.name).packs x.path).2 with
      | false => rfl
      | true =>
        obtain ⟨y, hy, e2⟩ := own e
        have := k1.1 h2
        rw [e2] at this
        cases this
    · obtain ⟨k2, k3⟩ := k1.2 h2
      refine ⟨?_, fun e => by rw [hdx e] at k3; cases k3⟩
      cases e : (ownM (withoutB b m.name).packs x.path).2 with
      | false => rfl
      | true =>
        obtain ⟨y, hy, e2⟩ := own e
        rw [e2] at k2
        exact absurd ((k2 rfl).trans f2) (without_no y hy)
/-- All of a database's packages but one are found behind a plan. -/
theorem find_add {b : Bas} {m x : Man} {mk : List UInt8 → Bool} (h : BasOk (addB b m mk)) (hx : x = m ∨ x ∈ b.packs) : findM (addB b m mk).packs x.name = (x, true) := findM_of h.names x (insM_mem.2 hx)
theorem find_rest {b : Bas} {n : List UInt8} {x : Man} (h : BasOk (withoutB b n)) (hx : x ∈ b.packs) (hn : ¬ x.name = n) : x ∈ (withoutB b n).packs ∧ findM (withoutB b n).packs x.name = (x, true) := by
  have : x ∈ (withoutB b n).packs := List.mem_filter.2 ⟨hx, decide_eq_true hn⟩
  exact ⟨this, findM_of h.names x this⟩
end Go.Proofs.YtjbnmeofjiokeaaGreatDoor.Ev
