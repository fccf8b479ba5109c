/- What a path stands in; manifests checked, as the document says. -/
import Derived.Test.YtjbnmeofjiokeaaGreatDoorVB
set_option linter.all false
namespace Go.Proofs.YtjbnmeofjiokeaaGreatDoor.Ev
open Go.RowKit
open Go.Proofs.YtjbnmeofjiokeaaGreatDoor.Mem
set_option linter.unusedVariables false
set_option linter.unusedSimpArgs false
set_option maxRecDepth 100000
theorem sp_last {c : UInt8} : ∀ {a b : List UInt8}, c ∉ b → sp c (a ++ c :: b) = sp c a ++ [b]
  | [], b, h => by
    rw [List.nil_append]
    unfold sp
    rw [if_pos rfl, sp_no h]
    rfl
  | x :: a, b, h => by
    have ih := sp_last (a := a) h
    have hn := sp_ne c a
    rw [List.cons_append]
    unfold sp
    rw [ih]
    split
    · rfl
    · cases e : sp c a with
      | nil => exact absurd e hn
      | cons y l => rfl
theorem parent_sp (s : List UInt8) : parentM s = Lib.join ((sp 47 s).take ((sp 47 s).length - 1)) [47] := by
  have gb : ∀ j, (((tx s).data[j]!).toNat : Int) = (by' s j : Nat) := fun j => congrArg Int.ofNat (get_by s j)
  have hi : ∀ (t : List UInt8) j, j < t.length → by' t j = 47 → t.getD j 0 = 47 := fun t j hj h => UInt8.toNat_inj.1 h
  rcases Lib.lastIndexByte_spec (tx s) 47 with ⟨g1, g2⟩ | ⟨i, g1, g2, g3, g4⟩
  · have hm : (47 : UInt8) ∉ s := fun hm => by
      obtain ⟨j, hj, e⟩ := List.getElem_of_mem hm
      have := g2 j (by rw [tx_size]; exact hj)
      rw [gb, ← by_at s j hj, e] at this
      exact this rfl
    rw [sp_no hm, parentM, if_pos (by rw [g1]; omega)]
    rfl
  · rw [tx_size] at g1 g4
    rw [gb] at g3
    have e : s = s.take i ++ 47 :: s.drop (i + 1) := by
      have h1 := drop_at s i 0 g1
      rw [hi s i g1 (by omega)] at h1
      rw [← h1, List.take_append_drop]
    have hm : (47 : UInt8) ∉ s.drop (i + 1) := fun hm => by
      obtain ⟨j, hj, ej⟩ := List.getElem_of_mem hm
      rw [List.length_drop] at hj
      rw [List.getElem_drop] at ej
      have := g4 (i + 1 + j) (by omega) (by omega)
      rw [gb, ← by_at s _ (by omega), ej] at this
      exact this rfl
    rw [parentM, if_neg (by rw [g2]; omega), g2]
    have e2 : sp 47 s = sp 47 (s.take i) ++ [s.drop (i + 1)] := by
      conv => lhs; rw [e]
      exact sp_last hm
    rw [e2, List.length_append, List.length_singleton, Nat.add_sub_cancel, List.take_left, join_sp]
    rfl
theorem join_take_le (c : UInt8) : ∀ (l : List (List UInt8)) (i : Nat), (Lib.join (l.take i) [c]).length ≤ (Lib.join l [c]).length
  | [], i => by simp
  | a :: l, 0 => by rw [List.take_zero, Lib.join_nil]; exact Nat.zero_le _
  | [a], i + 1 => by simp
  | a :: b :: l, 1 => by
    rw [show (a :: b :: l).take 1 = [a] from rfl, Lib.join_one, join_cc, List.length_append]
    omega
  | a :: b :: l, i + 2 => by
    have := join_take_le c (b :: l) (i + 1)
    rw [show (a :: b :: l).take (i + 2) = a :: b :: l.take i from rfl, join_cc, join_cc, List.length_append, List.length_append, List.length_cons, List.length_cons]
    rw [show (b :: l).take (i + 1) = b :: l.take i from rfl] at this
    omega
theorem join_take_sp (s : List UInt8) (i : Nat) : (Lib.join ((sp 47 s).take i) [47]).length ≤ s.length := by
  have := join_take_le 47 (sp 47 s) i
  rwa [join_sp] at this
theorem rparent_ok (s : List UInt8) (hs : s.length ≤ 1000000) : Spec Tryz.prog LL 30 [.s s] (.s (parentM s)) := by
  refine spec_of (C := ⟨Tryz.prog, LL, EE, []⟩) (rl := [.s (parentM s)]) (rs := [.tmp 2]) CCx LLs Tryz.func30 rfl (by kernel_rfl) rfl (by kernel_rfl) (Nat.le_of_ble_eq_true rfl) (fun i => rfl) (fun i => by first | rfl | exact (Bool.or_false _).trans (eSd_men _ _)) rfl (by decide) ?_
  refine gr ?_
  have h1 := sp_pos 47 s
  have h2 := sp_cnt 47 s
  refine cl (rsplit_ok s hs) ?_
  refine gr ?_
  rw [show (((sp 47 s).length : Int) - 1).toNat = (sp 47 s).length - 1 by omega]
  refine cl (rjoin_ok ((sp 47 s).take ((sp 47 s).length - 1)) (by rw [List.length_take]; omega) (fun i hi => by rw [List.take_take]; have := join_take_sp s (min i ((sp 47 s).length - 1)); omega)) ?_
  refine gr ?_
  rw [parent_sp]
set_option maxHeartbeats 8000000 in
theorem rcheck_ok (m : Man) (hf : m.Fit) : Spec Tryz.prog LL 14 [eMan m] (.n .i64 (checkM m)) := by
  refine spec_of (C := ⟨Tryz.prog, LL, EE, []⟩) (rl := [.n .i64 (checkM m)]) (rs := [.tmp 2]) CCx LLs Tryz.func14 rfl (by kernel_rfl) rfl (by kernel_rfl) (Nat.le_of_ble_eq_true rfl) (fun i => rfl) (fun i => by first | rfl | exact (Bool.or_false _).trans (eSd_men _ _)) rfl (by decide) ?_
  refine gr ?_
  have h3 := hf.nl
  have h4 := hf.cl
  have h5 := hf.el
  have t1 : nameB m.name = false ∨ verB m.ver = false → checkM m = 1 := fun h => by rw [checkM, if_pos h]
  have t2 : ¬ (nameB m.name = false ∨ verB m.ver = false) → (16 < m.needs.length ∨ 16 < m.clashes.length ∨ 64 < m.ents.length) → checkM m = 3 := fun h h' => by rw [checkM, if_neg h, if_pos h']
  have t3 : ¬ (nameB m.name = false ∨ verB m.ver = false) → ¬ (16 < m.needs.length ∨ 16 < m.clashes.length ∨ 64 < m.ents.length) → (m.needs.all ruleB = false ∨ m.clashes.all ruleB = false) → checkM m = 1 := fun h h' h'' => by rw [checkM, if_neg h, if_neg h', if_pos h'']
  have t4 : ¬ (nameB m.name = false ∨ verB m.ver = false) → ¬ (16 < m.needs.length ∨ 16 < m.clashes.length ∨ 64 < m.ents.length) → ¬ (m.needs.all ruleB = false ∨ m.clashes.all ruleB = false) → checkM m = entsM m.ents := fun h h' h'' => by rw [checkM, if_neg h, if_neg h', if_neg h'']
  refine cl (rname_ok m.name) ?_
  refine gr ?_
  cases hnm : nameB m.name
  · try refine gr ?_
    exact (t1 (.inl hnm)).symm ▸ rfl
  · try refine gr ?_
    refine cl (rver_ok m.ver hf.v) ?_
    refine gr ?_
    cases hve : verB m.ver
    · try refine gr ?_
      exact (t1 (.inr hve)).symm ▸ rfl
    · have nv : ¬ (nameB m.name = false ∨ verB m.ver = false) := by simp [hnm, hve]
      try refine gr ?_
      by_cases hl : 16 < m.needs.length ∨ 16 < m.clashes.length ∨ 64 < m.ents.length
      · rw [t2 nv hl]
        repeat' (first | exact True.intro | (exfalso; omega) | (exact rfl) | refine br (fun h => ?_) (fun h => ?_) | refine gr ?_)
      · iterate 3 (refine br (fun b => ?_) (fun b => ?_) <;> first | (exfalso; omega) | try refine gr ?_)
        refine lp_hd [1] [1] (fun i : Nat => [(3, .n .i64 (i : Int))]) (fun i : Nat => []) (fun i : Nat => i ≤ m.needs.length ∧ ∀ j, j < i → ruleB (m.needs.getD j dR) = true) (fun i : Nat => m.needs.length - i) (0) id (id) ⟨Nat.zero_le _, fun j h => by omega⟩ (fits_of (gr ?_) (gr ?_) (gr ?_) (gr ?_) (gr ?_)) ?_
        · first | exact True.intro | exact ⟨rfl, rfl⟩ | exact ⟨rfl, rfl, rfl⟩ | rfl | exact rowc (List.map_id _) | trivial
        · first | exact True.intro | exact ⟨rfl, rfl⟩ | exact ⟨rfl, rfl, rfl⟩ | rfl | exact rowc (List.map_id _) | trivial
        · first | exact True.intro | exact ⟨rfl, rfl⟩ | exact ⟨rfl, rfl, rfl⟩ | rfl | exact rowc (List.map_id _) | trivial
        · first | exact True.intro | exact ⟨rfl, rfl⟩ | exact ⟨rfl, rfl, rfl⟩ | rfl | exact rowc (List.map_id _) | trivial
        · first | exact True.intro | exact ⟨rfl, rfl⟩ | exact ⟨rfl, rfl, rfl⟩ | rfl | exact rowc (List.map_id _) | trivial
        rintro i ⟨hi, hr⟩
        try refine gr ?_
        refine br (fun b => ?_) (fun b => ?_)
        · have hm : m.needs.getD i dR ∈ m.needs := getD_mem (by omega)
          try refine gr ?_
          refine cl (rrule_ok (m.needs.getD i dR) (hf.ns _ hm).2) ?_
          refine gr ?_
          refine br (fun c => ?_) (fun c => ?_)
          · try refine gr ?_
            rw [t3 nv hl (.inl (by rw [← Bool.not_eq_true, List.all_eq_true]; intro h; have := h _ hm; simp_all))]
          · try refine gr ?_
            refine ⟨i + 1, ⟨by omega, fun j hj => by rcases Nat.lt_or_ge j i with h | h; exact hr j h; rw [show j = i by omega]; simpa using c⟩, (by omega), fits_of (gr ?_) (gr ?_) (gr ?_) (gr ?_) (gr ?_)⟩
            · first | exact True.intro | exact ⟨rfl, rfl⟩ | exact ⟨rfl, rfl, rfl⟩ | rfl | exact rowc (List.map_id _) | trivial
            · first | exact True.intro | exact ⟨rfl, rfl⟩ | exact ⟨rfl, rfl, rfl⟩ | rfl | exact rowc (List.map_id _) | trivial
            · first | exact True.intro | exact ⟨rfl, rfl⟩ | exact ⟨rfl, rfl, rfl⟩ | rfl | exact rowc (List.map_id _) | trivial
            · first | exact True.intro | exact ⟨rfl, rfl⟩ | exact ⟨rfl, rfl, rfl⟩ | rfl | exact rowc (List.map_id _) | trivial
            · first | exact True.intro | exact ⟨rfl, rfl⟩ | exact ⟨rfl, rfl, rfl⟩ | rfl | exact rowc (List.map_id _) | trivial
        · have a1 : m.needs.all ruleB = true := by
            rw [List.all_eq_true]
            intro x hx
            obtain ⟨j, h, rfl⟩ := List.getElem_of_mem hx
            have := hr j (by omega)
            rwa [List.getD_eq_getElem?_getD, List.getElem?_eq_getElem h] at this
          clear hr
          try refine gr ?_
          refine lp_hd [1] [1] (fun i : Nat => [(4, .n .i64 (i : Int))]) (fun i : Nat => []) (fun i : Nat => i ≤ m.clashes.length ∧ ∀ j, j < i → ruleB (m.clashes.getD j dR) = true) (fun i : Nat => m.clashes.length - i) (0) id (id) ⟨Nat.zero_le _, fun j h => by omega⟩ (fits_of (gr ?_) (gr ?_) (gr ?_) (gr ?_) (gr ?_)) ?_
          · first | exact True.intro | exact ⟨rfl, rfl⟩ | exact ⟨rfl, rfl, rfl⟩ | rfl | exact rowc (List.map_id _) | trivial
          · first | exact True.intro | exact ⟨rfl, rfl⟩ | exact ⟨rfl, rfl, rfl⟩ | rfl | exact rowc (List.map_id _) | trivial
          · first | exact True.intro | exact ⟨rfl, rfl⟩ | exact ⟨rfl, rfl, rfl⟩ | rfl | exact rowc (List.map_id _) | trivial
          · first | exact True.intro | exact ⟨rfl, rfl⟩ | exact ⟨rfl, rfl, rfl⟩ | rfl | exact rowc (List.map_id _) | trivial
          · first | exact True.intro | exact ⟨rfl, rfl⟩ | exact ⟨rfl, rfl, rfl⟩ | rfl | exact rowc (List.map_id _) | trivial
          rintro i ⟨hi, hr⟩
          try refine gr ?_
          refine br (fun b => ?_) (fun b => ?_)
          · have hm : m.clashes.getD i dR ∈ m.clashes := getD_mem (by omega)
            try refine gr ?_
            refine cl (rrule_ok (m.clashes.getD i dR) (hf.cs _ hm).2) ?_
            refine gr ?_
            refine br (fun c => ?_) (fun c => ?_)
            · try refine gr ?_
              rw [t3 nv hl (.inr (by rw [← Bool.not_eq_true, List.all_eq_true]; intro h; have := h _ hm; simp_all))]
            · try refine gr ?_
              refine ⟨i + 1, ⟨by omega, fun j hj => by rcases Nat.lt_or_ge j i with h | h; exact hr j h; rw [show j = i by omega]; simpa using c⟩, (by omega), fits_of (gr ?_) (gr ?_) (gr ?_) (gr ?_) (gr ?_)⟩
              · first | exact True.intro | exact ⟨rfl, rfl⟩ | exact ⟨rfl, rfl, rfl⟩ | rfl | exact rowc (List.map_id _) | trivial
              · first | exact True.intro | exact ⟨rfl, rfl⟩ | exact ⟨rfl, rfl, rfl⟩ | rfl | exact rowc (List.map_id _) | trivial
              · first | exact True.intro | exact ⟨rfl, rfl⟩ | exact ⟨rfl, rfl, rfl⟩ | rfl | exact rowc (List.map_id _) | trivial
              · first | exact True.intro | exact ⟨rfl, rfl⟩ | exact ⟨rfl, rfl, rfl⟩ | rfl | exact rowc (List.map_id _) | trivial
              · first | exact True.intro | exact ⟨rfl, rfl⟩ | exact ⟨rfl, rfl, rfl⟩ | rfl | exact rowc (List.map_id _) | trivial
          · have a2 : m.clashes.all ruleB = true := by
              rw [List.all_eq_true]
              intro x hx
              obtain ⟨j, h, rfl⟩ := List.getElem_of_mem hx
              have := hr j (by omega)
              rwa [List.getD_eq_getElem?_getD, List.getElem?_eq_getElem h] at this
            clear hr
            rw [t4 nv hl (by simp [a1, a2])]
            clear t1 t2 t3 t4
            have hes := hf.es
            generalize m.ents = l at h5 hes ⊢
            try refine gr ?_
            refine lp_hd [1] [1] (fun i : Nat => [(5, .n .i64 (i : Int))]) (fun i : Nat => []) (fun i : Nat => i ≤ l.length ∧ ∀ j, j < i → entF l j = 0) (fun i : Nat => l.length - i) (0) id (id) ⟨Nat.zero_le _, fun j h => absurd h (Nat.not_lt_zero _)⟩ (fits_of (gr ?_) (gr ?_) (gr ?_) (gr ?_) (gr ?_)) ?_
            · first | exact True.intro | exact ⟨rfl, rfl⟩ | exact ⟨rfl, rfl, rfl⟩ | rfl | exact rowc (List.map_id _) | trivial
            · first | exact True.intro | exact ⟨rfl, rfl⟩ | exact ⟨rfl, rfl, rfl⟩ | rfl | exact rowc (List.map_id _) | trivial
            · first | exact True.intro | exact ⟨rfl, rfl⟩ | exact ⟨rfl, rfl, rfl⟩ | rfl | exact rowc (List.map_id _) | trivial
            · first | exact True.intro | exact ⟨rfl, rfl⟩ | exact ⟨rfl, rfl, rfl⟩ | rfl | exact rowc (List.map_id _) | trivial
            · first | exact True.intro | exact ⟨rfl, rfl⟩ | exact ⟨rfl, rfl, rfl⟩ | rfl | exact rowc (List.map_id _) | trivial
            rintro i ⟨hi, hr⟩
            try refine gr ?_
            refine br (fun b => ?_) (fun b => ?_)
            · have hi2 : i < l.length := by omega
              have hm : l.getD i dE ∈ l := getD_mem hi2
              have hat := entsM_at hi2 hr
              try refine gr ?_
              refine cl (rentry2_ok (l.getD i dE)) ?_
              refine gr ?_
              refine br (fun c1 => ?_) (fun c1 => ?_)
              · try refine gr ?_
                have h : entF l i = entryM (l.getD i dE) := if_pos c1
                rw [hat (by rw [h]; exact c1), h]
              · have hl2 := entry_len (Decidable.not_not.1 c1)
                have h0 : entF l i = _ := if_neg c1
                have hds : (l.take i).length ≤ 100000000000000 := by simp; omega
                have t1 : 0 < i → lt' (l.getD (i - 1) dE).path (l.getD i dE).path = false → entsM l = 1 := fun h1 h2 => by rw [if_pos ⟨h1, h2⟩] at h0; rw [hat (by omega), h0]
                have t2 : (0 < i → ¬ lt' (l.getD (i - 1) dE).path (l.getD i dE).path = false) → ¬ parentM (l.getD i dE).path = [] → dirB (l.take i) (parentM (l.getD i dE).path) = false → entsM l = 4 := fun h1 h2 h3 => by rw [if_neg (fun h => h1 h.1 h.2), if_pos ⟨h2, h3⟩] at h0; rw [hat (by omega), h0]
                have t3 : (0 < i → ¬ lt' (l.getD (i - 1) dE).path (l.getD i dE).path = false) → (¬ parentM (l.getD i dE).path = [] → ¬ dirB (l.take i) (parentM (l.getD i dE).path) = false) → ∀ j, j < i + 1 → entF l j = 0 := fun h1 h2 j hj => by
                  rcases Nat.lt_or_ge j i with h | h
                  · exact hr j h
                  · rw [show j = i by omega, h0, if_neg (fun h => h1 h.1 h.2), if_neg (fun h => h2 h.1 h.2)]
                clear hat h0
                repeat' (first | exact True.intro | (exact (t1 (by omega) (by assumption)).symm) | (exact (t2 (fun _ => by first | omega | assumption) (by assumption) (by assumption)).symm) | (refine ⟨i + 1, ⟨by omega, t3 (fun _ => by first | omega | assumption) (fun _ => by first | assumption | contradiction)⟩, (by omega), fits_of (gr ?_) (gr ?_) (gr ?_) (gr ?_) (gr ?_)⟩ <;> (first | exact True.intro | exact ⟨rfl, rfl⟩ | exact ⟨rfl, rfl, rfl⟩ | rfl | exact rowc (List.map_id _) | trivial); done) | (rw [show ((i : Int) - 1).toNat = i - 1 by omega]) | refine cl (rparent_ok (l.getD i dE).path (by omega)) (gr ?_) | refine cl (rdir_ok (l.take i) (parentM (l.getD i dE).path) hds) (gr ?_) | refine br (fun h => ?_) (fun h => ?_) | refine gr ?_)
            · try refine gr ?_
              rw [entsM_0 fun j hj => hr j (by omega)]
end Go.Proofs.YtjbnmeofjiokeaaGreatDoor.Ev
