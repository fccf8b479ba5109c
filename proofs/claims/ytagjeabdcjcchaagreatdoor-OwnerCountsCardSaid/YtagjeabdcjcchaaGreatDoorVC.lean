/- What a path stands in; manifests checked, as the document says. -/
import Derived.Test.YtagjeabdcjcchaaGreatDoorVB
set_option linter.all false
namespace Go.Proofs.YtagjeabdcjcchaaGreatDoor.Ev
open Go.RowKit
open Go.Proofs.YtagjeabdcjcchaaGreatDoor.Mem
set_option linter.unusedVariables false
set_option linter.unusedSimpArgs false
set_option maxRecDepth 100000
theorem sp_last {c : UInt8} : ∀ {a b : List UInt8}, c ∉ b → sp c (a ++ c :: b) = sp c a ++ [b]
  | [], b, h => by
    rw [List.nil_append]
    unfold sp
    rw [if_pos rfl, sp_no h]
    rfl
  | x :: a, b, h => by
    have ih := sp_last (a := a) h
    have hn := sp_ne c a
    rw [List.cons_append]
    unfold sp
    rw [ih]
    split
    · rfl
    · cases e : sp c a with
      | nil => exact absurd e hn
      | cons y l => rfl
theorem parent_sp (s : List UInt8) : parentM s = Lib.join ((sp 47 s).take ((sp 47 s).length - 1)) [47] := by
  have gb : ∀ j, (((tx s).data[j]!).toNat : Int) = (by' s j : Nat) := fun j => congrArg Int.ofNat (get_by s j)
  have hi : ∀ (t : List UInt8) j, j < t.length → by' t j = 47 → t.getD j 0 = 47 := fun t j hj h => UInt8.toNat_inj.1 h
  rcases Lib.lastIndexByte_spec (tx s) 47 with ⟨g1, g2⟩ | ⟨i, g1, g2, g3, g4⟩
  · have hm : (47 : UInt8) ∉ s := fun hm => by
      obtain ⟨j, hj, e⟩ := List.getElem_of_mem hm
      have := g2 j (by rw [tx_size]; exact hj)
      rw [gb, ← by_at s j hj, e] at this
      exact this rfl
    rw [sp_no hm, parentM, if_pos (by rw [g1]; omega)]
    rfl
  · rw [tx_size] at g1 g4
    rw [gb] at g3
    have e : s = s.take i ++ 47 :: s.drop (i + 1) := by
      have h1 := drop_at s i 0 g1
      rw [hi s i g1 (by omega)] at h1
      rw [← h1, List.take_append_drop]
    have hm : (47 : UInt8) ∉ s.drop (i + 1) := fun hm => by
      obtain ⟨j, hj, ej⟩ := List.getElem_of_mem hm
      rw [List.length_drop] at hj
      rw [List.getElem_drop] at ej
      have := g4 (i + 1 + j) (by omega) (by omega)
      rw [gb, ← by_at s _ (by omega), ej] at this
      exact this rfl
    rw [parentM, if_neg (by rw [g2]; omega), g2]
    have e2 : sp 47 s = sp 47 (s.take i) ++ [s.drop (i + 1)] := by
      conv => lhs; rw [e]
      exact sp_last hm
    rw [e2, List.length_append, List.length_singleton, Nat.add_sub_cancel, List.take_left, join_sp]
    rfl
theorem join_take_le (c : UInt8) : ∀ (l : List (List UInt8)) (i : Nat), (Lib.join (l.take i) [c]).length ≤ (Lib.join l [c]).length
  | [], i => by simp
  | a :: l, 0 => by rw [List.take_zero, Lib.join_nil]; exact Nat.zero_le _
  | [a], i + 1 => by simp
  | a :: b :: l, 1 => by
    rw [show (a :: b :: l).take 1 = [a] from rfl, Lib.join_one, join_cc, List.length_append]
    omega
  | a :: b :: l, i + 2 => by
    have := join_take_le c (b :: l) (i + 1)
    rw [show (a :: b :: l).take (i + 2) = a :: b :: l.take i from rfl, join_cc, join_cc, List.length_append, List.length_append, List.length_cons, List.length_cons]
    rw [show (b :: l).take (i + 1) = b :: l.take i from rfl] at this
    omega
theorem join_take_sp (s : List UInt8) (i : Nat) : (Lib.join ((sp 47 s).take i) [47]).length ≤ s.length := by
  have := join_take_le 47 (sp 47 s) i
  rwa [join_sp] at this
theorem rparent_ok (s : List UInt8) (hs : s.length ≤ 1000000) : Spec Tryz.prog LL 49 [.s s] (.s (parentM s)) := by
  refine spec_of (C := ⟨Tryz.prog, LL, EE, []⟩) (rl := [.s (parentM s)]) (rs := [.tmp 2]) CCx LLs Tryz.func49 rfl (by kernel_rfl) rfl (by kernel_rfl) (Nat.le_of_ble_eq_true rfl) (fun i => rfl) (fun i => by first | rfl | exact (Bool.or_false _).trans (eSd_men _ _)) rfl (by decide) ?_
  refine gr ?_
  have h1 := sp_pos 47 s
  have h2 := sp_cnt 47 s
  refine cl (rsplit_ok s hs) ?_
  refine gr ?_
  rw [show (((sp 47 s).length : Int) - 1).toNat = (sp 47 s).length - 1 by omega]
  refine cl (rjoin_ok ((sp 47 s).take ((sp 47 s).length - 1)) (by rw [List.length_take]; omega) (fun i hi => by rw [List.take_take]; have := join_take_sp s (min i ((sp 47 s).length - 1)); omega)) ?_
  refine gr ?_
  rw [parent_sp]
set_option maxHeartbeats 8000000 in
theorem rcheck_ok (m : Man) (hf : m.Fit) : Spec Tryz.prog LL 25 [eMan m] (.n .i64 (checkM m)) := by
  refine spec_of (C := ⟨Tryz.prog, LL, EE, []⟩) (rl := [.n .i64 (checkM m)]) (rs := [.tmp 2]) CCx LLs Tryz.func25 rfl (by kernel_rfl) rfl (by kernel_rfl) (Nat.le_of_ble_eq_true rfl) (fun i => rfl) (fun i => by first | rfl | exact (Bool.or_false _).trans (eSd_men _ _)) rfl (by decide) ?_
  refine gr ?_
  have h3 := hf.nl
  have h4 := hf.cl
  have h5 := hf.el
  have t1 : nameB m.name = false ∨ verB m.ver = false → checkM m = 1 := fun h => by rw [checkM, if_pos h]
  have t2 : ¬ (nameB m.name = false ∨ verB m.ver = false) → (16 < m.needs.length ∨ 16 < m.clashes.length ∨ 64 < m.ents.length) → checkM m = 3 := fun h h' => by rw [checkM, if_neg h, if_pos h']
  have t3 : ¬ (nameB m.name = false ∨ verB m.ver = false) → ¬ (16 < m.needs.length ∨ 16 < m.clashes.length ∨ 64 < m.ents.length) → (m.needs.all ruleB = false ∨ m.clashes.all ruleB = false) → checkM m = 1 := fun h h' h'' => by rw [checkM, if_neg h, if_neg h', if_pos h'']
  have t4 : ¬ (nameB m.name = false ∨ verB m.ver = false) → ¬ (16 < m.needs.length ∨ 16 < m.clashes.length ∨ 64 < m.ents.length) → ¬ (m.needs.all ruleB = false ∨ m.clashes.all ruleB = false) → checkM m = entsM m.ents := fun h h' h'' => by rw [checkM, if_neg h, if_neg h', if_neg h'']
  refine cl (rname_ok m.name) ?_
  refine gr ?_
  cases hnm : nameB m.name
  · try refine gr ?_
    exact (t1 (.inl hnm)).symm ▸ rfl
  · try refine gr ?_
    refine cl (rver_ok m.ver hf.v) ?_
    refine gr ?_
    cases hve : verB m.ver
    · try refine gr ?_
      exact (t1 (.inr hve)).symm ▸ rfl
    · have nv : ¬ (nameB m.name = false ∨ verB m.ver = false) := by simp [hnm, hve]
      try refine gr ?_
      by_cases hl : 16 < m.needs.length ∨ 16 < m.clashes.length ∨ 64 < m.ents.length
      · rw [t2 nv hl]
        repeat' (first | exact True.intro | (exfalso; omega) | (exact rfl) | refine br (fun h => ?_) (fun h => ?_) | refine gr ?_)
      · iterate 3 (refine br (fun b => ?_) (fun b => ?_) <;> first | (exfalso; omega) | try refine gr ?_)
        refine lp_hd [1] [1] (fun i : Nat => [(3, .n .i64 (i : Int))]) (fun i : Nat => []) (fun i : Nat => i ≤ m.needs.length ∧ ∀ j, j < i → ruleB (m.needs.getD j dR) = true) (fun i : Nat => m.needs.length - i) (0) id (id) ⟨Nat.zero_le _, fun j h => by omega⟩ (fits_of (gr ?_) (gr ?_) (gr ?_) (gr ?_) (gr ?_)) ?_
        · first | exact True.intro | exact ⟨rfl, rfl⟩ | exact ⟨rfl, rfl, rfl⟩ | rfl | exact rowc (List.map_id _) | trivial
        · first | exact True.intro | exact ⟨rfl, rfl⟩ | exact ⟨rfl, rfl, rfl⟩ | rfl | exact rowc (List.map_id _) | trivial
        · first | exact True.intro | exact ⟨rfl, rfl⟩ | exact ⟨rfl, rfl, rfl⟩ | rfl | exact rowc (List.map_id _) | trivial
        · first | exact True.intro | exact ⟨rfl, rfl⟩ | exact ⟨rfl, rfl, rfl⟩ | rfl | exact rowc (List.map_id _) | trivial
        · first | exact True.intro | exact ⟨rfl, rfl⟩ | exact ⟨rfl, rfl, rfl⟩ | rfl | exact rowc (List.map_id _) | trivial
        rintro i ⟨hi, hr⟩
        try refine gr ?_
        refine br (fun b => ?_) (fun b => ?_)
        · have hm : m.needs.getD i dR ∈ m.needs := getD_mem (by omega)
          try refine gr ?_
          refine cl (rrule_ok (m.needs.getD i dR) (hf.ns _ hm).2) ?_
          refine gr ?_
          refine br (fun c => ?_) (fun c => ?_)
          · try refine gr ?_
            rw [t3 nv hl (.inl (by rw [← Bool.not_eq_true, List.all_eq_true]; intro h; have := h _ hm; simp_all))]
          · try refine gr ?_
            refine ⟨i + 1, ⟨by omega, fun j hj => by rcases Nat.lt_or_ge j i with h | h; exact hr j h; rw [show j = i by omega]; simpa using c⟩, (by omega), fits_of (gr ?_) (gr ?_) (gr ?_) (gr ?_) (gr ?_)⟩
            · first | exact True.intro | exact ⟨rfl, rfl⟩ | exact ⟨rfl, rfl, rfl⟩ | rfl | exact rowc (List.map_id _) | trivial
            · first | exact True.intro | exact ⟨rfl, rfl⟩ | exact ⟨rfl, rfl, rfl⟩ | rfl | exact rowc (List.map_id _) | trivial
            · first | exact True.intro | exact ⟨rfl, rfl⟩ | exact ⟨rfl, rfl, rfl⟩ | rfl | exact rowc (List.map_id _) | trivial
            · first | exact True.intro | exact ⟨rfl, rfl⟩ | exact ⟨rfl, rfl, rfl⟩ | rfl | exact rowc (List.map_id _) | trivial
            · first | exact True.intro | exact ⟨rfl, rfl⟩ | exact ⟨rfl, rfl, rfl⟩ | rfl | exact rowc (List.map_id _) | trivial
        · have a1 : m.needs.all ruleB = true := by
            rw [List.all_eq_true]
            intro x hx
            obtain ⟨j, h, rfl⟩ := List.getElem_of_mem hx
            have := hr j (by omega)
            rwa [List.getD_eq_getElem?_getD, List.getElem?_eq_getElem h] at this
          clear hr
          try refine gr ?_
          refine lp_hd [1] [1] (fun i : Nat => [(4, .n .i64 (i : Int))]) (fun i : Nat => []) (fun i : Nat => i ≤ m.clashes.length ∧ ∀ j, j < i → ruleB (m.clashes.getD j dR) = true) (fun i : Nat => m.clashes.length - i) (0) id (id) ⟨Nat.zero_le _, fun j h => by omega⟩ (fits_of (gr ?_) (gr ?_) (gr ?_) (gr ?_) (gr ?_)) ?_
          · first | exact True.intro | exact ⟨rfl, rfl⟩ | exact ⟨rfl, rfl, rfl⟩ | rfl | exact rowc (List.map_id _) | trivial
          · first | exact True.intro | exact ⟨rfl, rfl⟩ | exact ⟨rfl, rfl, rfl⟩ | rfl | exact rowc (List.map_id _) | trivial
          · first | exact True.intro | exact ⟨rfl, rfl⟩ | exact ⟨rfl, rfl, rfl⟩ | rfl | exact rowc (List.map_id _) | trivial
          · first | exact True.intro | exact ⟨rfl, rfl⟩ | exact ⟨rfl, rfl, rfl⟩ | rfl | exact rowc (List.map_id _) | trivial
          · first | exact True.intro | exact ⟨rfl, rfl⟩ | exact ⟨rfl, rfl, rfl⟩ | rfl | exact rowc (List.map_id _) | trivial
          rintro i ⟨hi, hr⟩
          try refine gr ?_
          refine br (fun b => ?_) (fun b => ?_)
          · have hm : m.clashes.getD i dR ∈ m.clashes := getD_mem (by omega)
            try refine gr ?_
            refine cl (rrule_ok (m.clashes.getD i dR) (hf.cs _ hm).2) ?_
            refine gr ?_
            refine br (fun c => ?_) (fun c => ?_)
            · try refine gr ?_
              rw [t3 nv hl (.inr (by rw [← Bool.not_eq_true, List.all_eq_true]; intro h; have := h _ hm; simp_all))]
            · try refine gr ?_
              refine ⟨i + 1, ⟨by omega, fun j hj => by rcases Nat.lt_or_ge j i with h | h; exact hr j h; rw [show j = i by omega]; simpa using c⟩, (by omega), fits_of (gr ?_) (gr ?_) (gr ?_) (gr ?_) (gr ?_)⟩
              · first | exact True.intro | exact ⟨rfl, rfl⟩ | exact ⟨rfl, rfl, rfl⟩ | rfl | exact rowc (List.map_id _) | trivial
              · first | exact True.intro | exact ⟨rfl, rfl⟩ | exact ⟨rfl, rfl, rfl⟩ | rfl | exact rowc (List.map_id _) | trivial
              · first | exact True.intro | exact ⟨rfl, rfl⟩ | exact ⟨rfl, rfl, rfl⟩ | rfl | exact rowc (List.map_id _) | trivial
              · first | exact True.intro | exact ⟨rfl, rfl⟩ | exact ⟨rfl, rfl, rfl⟩ | rfl | exact rowc (List.map_id _) | trivial
              · first | exact True.intro | exact ⟨rfl, rfl⟩ | exact ⟨rfl, rfl, rfl⟩ | rfl | exact rowc (List.map_id _) | trivial
          · have a2 : m.clashes.all ruleB = true := by
              rw [List.all_eq_true]
              intro x hx
              obtain ⟨j, h, rfl⟩ := List.getElem_of_mem hx
              have := hr j (by omega)
              rwa [List.getD_eq_getElem?_getD, List.getElem?_eq_getElem h] at this
            clear hr
            rw [t4 nv hl (by simp [a1, a2])]
            clear t1 t2 t3 t4
            have hes := hf.es
            generalize m.ents = l at h5 hes ⊢
            try refine gr ?_
            refine lp_hd [1] [1] (fun i : Nat => [(5, .n .i64 (i : Int))]) (fun i : Nat => []) (fun i : Nat => i ≤ l.length ∧ ∀ j, j < i → entF l j = 0) (fun i : Nat => l.length - i) (0) id (id) ⟨Nat.zero_le _, fun j h => absurd h (Nat.not_lt_zero _)⟩ (fits_of (gr ?_) (gr ?_) (gr ?_) (gr ?_) (gr ?_)) ?_
            · first | exact True.intro | exact ⟨rfl, rfl⟩ | exact ⟨rfl, rfl, rfl⟩ | rfl | exact rowc (List.map_id _) | trivial
            · first | exact True.intro | exact ⟨rfl, rfl⟩ | exact ⟨rfl, rfl, rfl⟩ | rfl | exact rowc (List.map_id _) | trivial
            · first | exact True.intro | exact ⟨rfl, rfl⟩ | exact ⟨rfl, rfl, rfl⟩ | rfl | exact rowc (List.map_id _) | trivial
            · first | exact True.intro | exact ⟨rfl, rfl⟩ | exact ⟨rfl, rfl, rfl⟩ | rfl | exact rowc (List.map_id _) | trivial
            · first | exact True.intro | exact ⟨rfl, rfl⟩ | exact ⟨rfl, rfl, rfl⟩ | rfl | exact rowc (List.map_id _) | trivial
            rintro i ⟨hi, hr⟩
            try refine gr ?_
            refine br (fun b => ?_) (fun b => ?_)
            · have hi2 : i < l.length := by omega
              have hm : l.getD i dE ∈ l := getD_mem hi2
              have hat := entsM_at hi2 hr
              try refine gr ?_
              refine cl (rentry2_ok (l.getD i dE)) ?_
              refine gr ?_
              refine br (fun c1 => ?_) (fun c1 => ?_)
              · try refine gr ?_
                have h : entF l i = entryM (l.getD i dE) := if_pos c1
                rw [hat (by rw [h]; exact c1), h]
              · have hl2 := entry_len (Decidable.not_not.1 c1)
                have h0 : entF l i = _ := if_neg c1
                have hds : (l.take i).length ≤ 100000000000000 := by simp; omega
                have t1 : 0 < i → lt' (l.getD (i - 1) dE).path (l.getD i dE).path = false → entsM l = 1 := fun h1 h2 => by rw [if_pos ⟨h1, h2⟩] at h0; rw [hat (by omega), h0]
                have t2 : (0 < i → ¬ lt' (l.getD (i - 1) dE).path (l.getD i dE).path = false) → ¬ parentM (l.getD i dE).path = [] → dirB (l.take i) (parentM (l.getD i dE).path) = false → entsM l = 4 := fun h1 h2 h3 => by rw [if_neg (fun h => h1 h.1 h.2), if_pos ⟨h2, h3⟩] at h0; rw [hat (by omega), h0]
                have t3 : (0 < i → ¬ lt' (l.getD (i - 1) dE).path (l.getD i dE).path = false) → (¬ parentM (l.getD i dE).path = [] → ¬ dirB (l.take i) (parentM (l.getD i dE).path) = false) → ∀ j, j < i + 1 → entF l j = 0 := fun h1 h2 j hj => by
                  rcases Nat.lt_or_ge j i with h | h
                  · exact hr j h
                  · rw [show j = i by omega, h0, if_neg (fun h => h1 h.1 h.2), if_neg (fun h => h2 h.1 h.2)]
                clear hat h0
                repeat' (first | exact True.intro | (exact (t1 (by omega) (by assumption)).symm) | (exact (t2 (fun _ => by first | omega | assumption) (by assumption) (by assumption)).symm) | (refine ⟨i + 1, ⟨by omega, t3 (fun _ => by first | omega | assumption) (fun _ => by first | assumption | contradiction)⟩, (by omega), fits_of (gr ?_) (gr ?_) (gr ?_) (gr ?_) (gr ?_)⟩ <;> (first | exact True.intro | exact ⟨rfl, rfl⟩ | exact ⟨rfl, rfl, rfl⟩ | rfl | exact rowc (List.map_id _) | trivial); done) | (rw [show ((i : Int) - 1).toNat = i - 1 by omega]) | refine cl (rparent_ok (l.getD i dE).path (by omega)) (gr ?_) | refine cl (rdir_ok (l.take i) (parentM (l.getD i dE).path) hds) (gr ?_) | refine br (fun h => ?_) (fun h => ?_) | refine gr ?_)
            · try refine gr ?_
              rw [entsM_0 fun j hj => hr j (by omega)]
end Go.Proofs.YtagjeabdcjcchaaGreatDoor.Ev
namespace Go.Proofs.YtagjeabdcjcchaaGreatDoor.Ev
open Go.RowKit
open Go.Proofs.YtagjeabdcjcchaaGreatDoor.Mem
set_option linter.unusedVariables false
set_option linter.unusedSimpArgs false
set_option maxRecDepth 100000
theorem dp : ∀ p, p < 16 → List.drop p ((48 : UInt8) :: List.take p [49, 50, 51, 52, 53, 54, 55, 56, 57, 97, 98, 99, 100, 101, 102]) = [sgn p] := by decide
theorem rhex_ok (s : List UInt8) (hs : s.length ≤ 1000000) : Spec Tryz.prog LL 99 [.s s] (.s (hexL s)) := by
  refine spec_of (C := ⟨Tryz.prog, LL, EE, []⟩) (rl := [.s (hexL s)]) (rs := [.tmp 2]) CCx LLs Tryz.func99 rfl (by kernel_rfl) rfl (by kernel_rfl) (Nat.le_of_ble_eq_true rfl) (fun i => rfl) (fun i => by first | rfl | exact (Bool.or_false _).trans (eSd_men _ _)) rfl (by decide) ?_
  refine gr ?_
  refine lp_hd [0] [] (fun i : Nat => [(3, .s (hexL (s.take i))), (4, .n .i64 (i : Int))]) (fun i : Nat => []) (fun i : Nat => i ≤ s.length) (fun i : Nat => s.length - i) (0) id (id) (Nat.zero_le _) (fits_of (gr ?_) (gr ?_) (gr ?_) (gr ?_) (gr ?_)) ?_
  · first | exact True.intro | exact ⟨rfl, rfl⟩ | exact ⟨rfl, rfl, rfl⟩ | rfl | exact rowc (List.map_id _) | trivial
  · first | exact True.intro | exact ⟨rfl, rfl⟩ | exact ⟨rfl, rfl, rfl⟩ | rfl | exact rowc (List.map_id _) | trivial
  · first | exact True.intro | exact ⟨rfl, rfl⟩ | exact ⟨rfl, rfl, rfl⟩ | rfl | exact rowc (List.map_id _) | trivial
  · first | exact True.intro | exact ⟨rfl, rfl⟩ | exact ⟨rfl, rfl, rfl⟩ | rfl | exact rowc (List.map_id _) | trivial
  · first | exact True.intro | exact ⟨rfl, rfl⟩ | exact ⟨rfl, rfl, rfl⟩ | rfl | exact rowc (List.map_id _) | trivial
  rintro i hi
  try refine gr ?_
  refine br (fun e => ?_) (fun e => ?_)
  · try refine gr ?_
    have hl := hexL_len (s.take i)
    rw [List.length_take] at hl
    have hb := by_lt s i
    have htk : hexL (s.take (i + 1)) = hexL (s.take i) ++ [sgn (by' s i / 16), sgn (by' s i % 16)] := by
      rw [take_at s i 0 (by omega), hexL, List.flatMap_append]
      rfl
    have d1 : ((by' s i : Nat) : Int).tdiv 16 = ((by' s i / 16 : Nat) : Int) := rfl
    have d2 : ((by' s i : Nat) : Int).tmod 16 = ((by' s i % 16 : Nat) : Int) := rfl
    have w8 : ∀ x : Nat, x < 256 → IntKind.u8.wrap (x : Int) = x := fun x h1 => by simp [IntKind.wrap, IntKind.bits, IntKind.signed]; omega
    have hp : by' s i / 16 < 16 := by omega
    have hq : by' s i % 16 < 16 := Nat.mod_lt _ (by omega)
    rw [d1, d2]
    generalize by' s i / 16 = p at *
    generalize by' s i % 16 = q at *
    rw [w8 p (by omega), show (p : Int) + 1 = ((p + 1 : Nat) : Int) from rfl, show (q : Int) + 1 = ((q + 1 : Nat) : Int) from rfl, w8 (p + 1) (by omega), w8 (q + 1) (by omega)]
    try refine gr ?_
    refine ⟨i + 1, (by omega), (by omega), fits_of (gr ?_) (gr ?_) (gr ?_) (gr ?_) (gr ?_)⟩
    · first | exact True.intro | exact ⟨rfl, rfl⟩ | exact ⟨rfl, rfl, rfl⟩ | rfl | exact rowc (List.map_id _) | trivial
    · (rw [htk, dp p hp, dp q hq]; exact ⟨rfl, rfl⟩)
    · first | exact True.intro | exact ⟨rfl, rfl⟩ | exact ⟨rfl, rfl, rfl⟩ | rfl | exact rowc (List.map_id _) | trivial
    · first | exact True.intro | exact ⟨rfl, rfl⟩ | exact ⟨rfl, rfl, rfl⟩ | rfl | exact rowc (List.map_id _) | trivial
    · first | exact True.intro | exact ⟨rfl, rfl⟩ | exact ⟨rfl, rfl, rfl⟩ | rfl | exact rowc (List.map_id _) | trivial
  · try refine gr ?_
    rw [List.take_of_length_le (by omega)]
theorem rrules_ok (w : List UInt8) (l : List Rul) (hw : w.length ≤ 100) (hl : l.length ≤ 16) (h : ∀ r ∈ l, ruleB r = true) : Spec Tryz.prog LL 63 [.s w, .sl 3 Rul dR l eRul] (.s (rulesL w l)) := by
  refine spec_of (C := ⟨Tryz.prog, LL, EE, []⟩) (rl := [.s (rulesL w l)]) (rs := [.tmp 4]) CCx LLs Tryz.func63 rfl (by kernel_rfl) rfl (by kernel_rfl) (Nat.le_of_ble_eq_true rfl) (fun i => rfl) (fun i => by first | rfl | exact (Bool.or_false _).trans (eSd_men _ _)) rfl (by decide) ?_
  refine gr ?_
  refine lp_hd [0, 1] [] (fun i : Nat => [(5, .s (rulesL w (l.take i))), (6, .n .i64 (i : Int))]) (fun i : Nat => []) (fun i : Nat => i ≤ l.length) (fun i : Nat => l.length - i) (0) id (id) (Nat.zero_le _) (fits_of (gr ?_) (gr ?_) (gr ?_) (gr ?_) (gr ?_)) ?_
  · first | exact True.intro | exact ⟨rfl, rfl⟩ | exact ⟨rfl, rfl, rfl⟩ | rfl | exact rowc (List.map_id _) | trivial
  · first | exact True.intro | exact ⟨rfl, rfl⟩ | exact ⟨rfl, rfl, rfl⟩ | rfl | exact rowc (List.map_id _) | trivial
  · first | exact True.intro | exact ⟨rfl, rfl⟩ | exact ⟨rfl, rfl, rfl⟩ | rfl | exact rowc (List.map_id _) | trivial
  · first | exact True.intro | exact ⟨rfl, rfl⟩ | exact ⟨rfl, rfl, rfl⟩ | rfl | exact rowc (List.map_id _) | trivial
  · first | exact True.intro | exact ⟨rfl, rfl⟩ | exact ⟨rfl, rfl, rfl⟩ | rfl | exact rowc (List.map_id _) | trivial
  rintro i hi
  have hlen := rulesL_len w (l.take i) fun r hr => rule_len (h r (List.mem_of_mem_take hr))
  have hlen2 : (l.take i).length * (w.length + 55) ≤ 16 * 155 := Nat.mul_le_mul (by rw [List.length_take]; omega) (by omega)
  try refine gr ?_
  refine br (fun e => ?_) (fun e => ?_)
  · have htk : rulesL w (l.take (i + 1)) = rulesL w (l.take i) ++ ruleL w (l.getD i dR) := by
      rw [take_at l i dR (by omega), rulesL, List.flatMap_append]; simp [rulesL]
    have hr := h (l.getD i dR) (getD_mem (by omega))
    obtain ⟨q1, q2⟩ := rule_len hr
    obtain ⟨q3, q4, q5⟩ := rule_ok' hr
    try refine gr ?_
    have hrl := ruleL_len w (l.getD i dR)
    refine br (fun c => ?_) (fun c => ?_)
    · have hrr : ruleL w (l.getD i dR) = lineL [w, (l.getD i dR).name, signL (l.getD i dR).op, (l.getD i dR).ver] := if_neg (by omega)
      rw [lineL, join4] at hrr
      obtain ⟨q6, q7, q8⟩ := q5 (by omega)
      have hsg : (signL (l.getD i dR).op).length ≤ 2 := by unfold signL; (repeat' split) <;> simp
      try refine gr ?_
      refine cd (rop_ok (l.getD i dR).op q6 q7) ?_
      refine gr ?_
      refine ⟨i + 1, (by omega), (by omega), fits_of (gr ?_) (gr ?_) (gr ?_) (gr ?_) (gr ?_)⟩
      · first | exact True.intro | exact ⟨rfl, rfl⟩ | exact ⟨rfl, rfl, rfl⟩ | rfl | exact rowc (List.map_id _) | trivial
      · (rw [htk, hrr]; simp)
      · first | exact True.intro | exact ⟨rfl, rfl⟩ | exact ⟨rfl, rfl, rfl⟩ | rfl | exact rowc (List.map_id _) | trivial
      · first | exact True.intro | exact ⟨rfl, rfl⟩ | exact ⟨rfl, rfl, rfl⟩ | rfl | exact rowc (List.map_id _) | trivial
      · first | exact True.intro | exact ⟨rfl, rfl⟩ | exact ⟨rfl, rfl, rfl⟩ | rfl | exact rowc (List.map_id _) | trivial
    · have hrr : ruleL w (l.getD i dR) = lineL [w, (l.getD i dR).name] := if_pos (by omega)
      rw [lineL, join2] at hrr
      try refine gr ?_
      refine ⟨i + 1, (by omega), (by omega), fits_of (gr ?_) (gr ?_) (gr ?_) (gr ?_) (gr ?_)⟩
      · first | exact True.intro | exact ⟨rfl, rfl⟩ | exact ⟨rfl, rfl, rfl⟩ | rfl | exact rowc (List.map_id _) | trivial
      · (rw [htk, hrr]; simp)
      · first | exact True.intro | exact ⟨rfl, rfl⟩ | exact ⟨rfl, rfl, rfl⟩ | rfl | exact rowc (List.map_id _) | trivial
      · first | exact True.intro | exact ⟨rfl, rfl⟩ | exact ⟨rfl, rfl, rfl⟩ | rfl | exact rowc (List.map_id _) | trivial
      · first | exact True.intro | exact ⟨rfl, rfl⟩ | exact ⟨rfl, rfl, rfl⟩ | rfl | exact rowc (List.map_id _) | trivial
  · try refine gr ?_
    rw [List.take_of_length_le (by omega)]
end Go.Proofs.YtagjeabdcjcchaaGreatDoor.Ev
namespace Go.Proofs.YtagjeabdcjcchaaGreatDoor.Ev
open Go.RowKit
open Go.Proofs.YtagjeabdcjcchaaGreatDoor.Mem
set_option linter.unusedVariables false
set_option linter.unusedSimpArgs false
set_option maxRecDepth 100000
theorem dv8' : (∀ a : Nat, (a : Int).tmod 8 = ((a % 8 : Nat) : Int)) ∧ (∀ a : Nat, (a : Int).tdiv 8 = ((a / 8 : Nat) : Int)) := ⟨fun a => rfl, fun a => rfl⟩
theorem gq {p q : Prop} (hq : q) (h : p ↔ q := by simp (config := { maxSteps := 10000000 }) (disch := omega) only [dv8', evw, eSdD, fxM, cSd, wrc, eRd, eEd, eMd, eBd, eEE, rDs, eok, true_implies, eo5, ev5, Nat.mul_one, Nat.zero_mul, Nat.one_mul, Nat.add_zero, lenl, bne_self_eq_false, Int.reduceLT, Int.reduceLE, Int.reduceEq, Int.reduceNe, Int.reduceAdd, Int.reduceSub, Int.reduceMul, Int.reduceNeg, ebr, wr64, sdl, ler, true_or, or_true, rng, List.length_map, List.length_range, List.length_append, List.length_replicate, List.length_set, List.length_take, List.length_drop, List.not_mem_nil, false_implies, implies_true, ↓ec, ↓eg, ↓eo, ↓eox, ↓es, ↓et1, em, emR, efz, enl, ebx, ebt, et, ev, List.drop_nil, Option.some.injEq, Option.isSome_none, Int.reduceToNat, List.replicate_zero, Bool.or_self, ez, ef, ebd, et2, Int.toNat_natCast, Option.map_none, Option.map_some, List.all_cons, List.all_nil, Bool.and_self, List.cons_append, List.nil_append, List.append_nil, List.append_assoc, ep, ew, Option.isSome_some, id_eq, Nat.reduceLT, Nat.reduceSub, Bool.false_or, Bool.true_or, Bool.or_true, Bool.true_and, Bool.and_true, reduceCtorEq, Nat.reduceBEq, Bool.true_eq_false, Bool.false_eq_true, List.map_cons, List.map_nil, List.take_succ_cons, List.take_zero, List.drop_succ_cons, List.drop_zero, List.length_cons, List.length_nil, Nat.zero_add, Nat.reduceAdd, Nat.reduceLeDiff, Bool.not_true, Bool.not_false, List.getElem?_cons_succ, List.getElem?_cons_zero, Option.bind_some, ne_eq, not_false_eq_true, ↓eh1, eh, en, List.getD_cons_zero, List.getD_cons_succ, Nat.reduceEqDiff, ↓reduceIte, cond_true, cond_false, Bool.or_false, decide_true, decide_false, true_and, and_true, decide_eq_true_eq, decide_eq_false_iff_not, Bool.not_eq_true', Bool.not_eq_false', not_true_eq_false, Decidable.not_not]; exact Iff.rfl) : p := h.2 hq
theorem oct_byte8 (m : Nat) (h : m < 8) : cB (V.n IntKind.u8 (IntKind.u8.wrap (48 + (m : Int)))) = UInt8.ofNat (48 + m) := by
  have key : ∀ m : Fin 8, cB (V.n IntKind.u8 (IntKind.u8.wrap (48 + ((m.val : Nat) : Int)))) = UInt8.ofNat (48 + m.val) := by decide +kernel
  exact key ⟨m, h⟩
theorem octD0 (n : Nat) : octD 0 n = [] := rfl
theorem roct_ok (n : Nat) (hn : n < 9223372036854775808) : Spec Tryz.prog LL 133 [.n .i64 (n : Int), .n .i64 4] (.tp [.s (octD 4 n), .b (decide (n / 8 ^ 4 = 0))]) := by
  refine spec_of (C := ⟨Tryz.prog, LL, EE, []⟩) (rl := [.s (octD 4 n), .b (decide (n / 8 ^ 4 = 0))]) (rs := [.tmp 4, .tmp 5]) CCx LLs Tryz.func133 rfl (by kernel_rfl) rfl (by kernel_rfl) (Nat.le_of_ble_eq_true rfl) (fun i => rfl) (fun i => by first | rfl | exact (Bool.or_false _).trans (eSd_men _ _)) rfl (by decide) ?_
  refine gq ?_
  refine br (fun a => ?_) (fun a => ?_)
  · try refine gq ?_
    refine lp_hd [1] [] (fun k : Nat => [(0, .n .i64 ((n / 8 ^ k : Nat) : Int)), (6, .s (octD k n)), (7, .n .i64 (k : Int))]) (fun k : Nat => []) (fun k : Nat => k ≤ 4) (fun k : Nat => 4 - k) (0) id (id) (by omega) (fits_of (gq ?_) (gq ?_) (gq ?_) (gq ?_) (gq ?_)) ?_
    · first | exact True.intro | exact ⟨rfl, rfl⟩ | exact ⟨rfl, rfl, rfl⟩ | rfl | exact rowc (List.map_id _) | trivial
    · (simp [Nat.pow_zero, octD0])
    · first | exact True.intro | exact ⟨rfl, rfl⟩ | exact ⟨rfl, rfl, rfl⟩ | rfl | exact rowc (List.map_id _) | trivial
    · first | exact True.intro | exact ⟨rfl, rfl⟩ | exact ⟨rfl, rfl, rfl⟩ | rfl | exact rowc (List.map_id _) | trivial
    · first | exact True.intro | exact ⟨rfl, rfl⟩ | exact ⟨rfl, rfl, rfl⟩ | rfl | exact rowc (List.map_id _) | trivial
    rintro k hk
    try refine gq ?_
    refine br (fun e => ?_) (fun e => ?_)
    · have hq : n / 8 ^ k < 9223372036854775808 := Nat.lt_of_le_of_lt (Nat.div_le_self _ _) hn
      try refine gq ?_
      refine .inr ?_
      refine cvB (t := 5) (by kernel_rfl) (by kernel_rfl) (by kernel_rfl) ?_
      rw [oct_byte8 _ (Nat.mod_lt _ (by omega))]
      try refine gq ?_
      refine ⟨by rw [octD_len]; omega, ?_⟩
      refine ⟨k + 1, (by omega), (by omega), fits_of (gq ?_) (gq ?_) (gq ?_) (gq ?_) (gq ?_)⟩
      · first | exact True.intro | exact ⟨rfl, rfl⟩ | exact ⟨rfl, rfl, rfl⟩ | rfl | exact rowc (List.map_id _) | trivial
      · (rw [wr64 (by generalize n / 8 ^ k = q at *; omega) (by generalize n / 8 ^ k = q at *; omega), Nat.div_div_eq_div_mul, ← Nat.pow_succ, octD_hd]; exact ⟨rfl, rfl, rfl⟩)
      · first | exact True.intro | exact ⟨rfl, rfl⟩ | exact ⟨rfl, rfl, rfl⟩ | rfl | exact rowc (List.map_id _) | trivial
      · first | exact True.intro | exact ⟨rfl, rfl⟩ | exact ⟨rfl, rfl, rfl⟩ | rfl | exact rowc (List.map_id _) | trivial
      · first | exact True.intro | exact ⟨rfl, rfl⟩ | exact ⟨rfl, rfl, rfl⟩ | rfl | exact rowc (List.map_id _) | trivial
    · try refine gq ?_
      obtain rfl : k = 4 := by omega
      refine ⟨rfl, ?_⟩
      exact decide_eq_decide.2 (by omega)
  · exfalso; omega
theorem rmode_ok (n : Nat) (hn : n < 9223372036854775808) : Spec Tryz.prog LL 98 [.n .i64 (n : Int)] (.s (octD 4 n)) := by
  refine spec_of (C := ⟨Tryz.prog, LL, EE, []⟩) (rl := [.s (octD 4 n)]) (rs := [.tmp 2]) CCx LLs Tryz.func98 rfl (by kernel_rfl) rfl (by kernel_rfl) (Nat.le_of_ble_eq_true rfl) (fun i => rfl) (fun i => by first | rfl | exact (Bool.or_false _).trans (eSd_men _ _)) rfl (by decide) ?_
  refine gq ?_
  refine cl (roct_ok n hn) ?_
  refine gq ?_
  trivial
end Go.Proofs.YtagjeabdcjcchaaGreatDoor.Ev
namespace Go.Proofs.YtagjeabdcjcchaaGreatDoor.Ev
open Go.RowKit
open Go.Proofs.YtagjeabdcjcchaaGreatDoor.Mem
set_option linter.unusedVariables false
set_option linter.unusedSimpArgs false
set_option maxRecDepth 100000
theorem rline_ok (x : Ent) (hx : EntOk x) : Spec Tryz.prog LL 64 [eEnt x] (.s (entL x)) := by
  refine spec_of (C := ⟨Tryz.prog, LL, EE, []⟩) (rl := [.s (entL x)]) (rs := [.tmp 2]) CCx LLs Tryz.func64 rfl (by kernel_rfl) rfl (by kernel_rfl) (Nat.le_of_ble_eq_true rfl) (fun i => rfl) (fun i => by first | rfl | exact (Bool.or_false _).trans (eSd_men _ _)) rfl (by decide) ?_
  refine gr ?_
  have h1 := hx.sums
  have h2 := hx.tars
  have h3 := parts_len hx.p
  have hm := hx.m
  have hk := hx.k
  unfold knd at hk
  have e2 : x.kind = 2 → entL x = wDir ++ 32 :: octD 4 x.mode.toNat ++ 32 :: x.path ++ [10] := fun h => by rw [entL, if_pos h, lineL, join3]
  have e3 : x.kind = 3 → entL x = wLink ++ 32 :: x.path ++ 32 :: x.target ++ [10] := fun h => by rw [entL, if_neg (by omega), if_pos h, lineL, join3]
  have e5 : x.kind = 5 → entL x = wConf ++ 32 :: octD 4 x.mode.toNat ++ 32 :: hexL x.sum ++ 32 :: x.path ++ [10] := fun h => by rw [entL, if_neg (by omega), if_neg (by omega), if_pos h, lineL, join4]
  have e1 : x.kind = 1 → entL x = wFile ++ 32 :: octD 4 x.mode.toNat ++ 32 :: hexL x.sum ++ 32 :: x.path ++ [10] := fun h => by rw [entL, if_neg (by omega), if_neg (by omega), if_neg (by omega), lineL, join4]
  obtain ⟨n, hn⟩ : ∃ n : Nat, x.mode = n := ⟨x.mode.toNat, by omega⟩
  have ho : octD 4 x.mode.toNat = octD 4 n := by rw [hn]; rfl
  rw [ho] at e1 e2 e5
  rw [hn]
  have l1 := octD_len 4 n
  have l2 := hexL_len x.sum
  refine br (fun a => ?_) (fun a => ?_)
  · rw [e1 a]
    try refine gr ?_
    refine cd (rmode_ok n (by omega)) ?_
    refine gr ?_
    refine cd (rhex_ok x.sum (by omega)) ?_
    refine gr ?_
    simp [wFile]
  · try refine gr ?_
    refine br (fun b => ?_) (fun b => ?_)
    · rw [e5 b]
      try refine gr ?_
      refine cd (rmode_ok n (by omega)) ?_
      refine gr ?_
      refine cd (rhex_ok x.sum (by omega)) ?_
      refine gr ?_
      simp [wConf]
    · try refine gr ?_
      refine br (fun c => ?_) (fun c => ?_)
      · rw [e2 c]
        try refine gr ?_
        refine cd (rmode_ok n (by omega)) ?_
        refine gr ?_
        simp [wDir]
      · rw [e3 (by omega)]
        try refine gr ?_
        simp [wLink]
theorem rprint_ok (m : Man) (hf : m.Fit) : Spec Tryz.prog LL 32 [eMan m] (.tp [.s (printM m).1, .n .i64 (printM m).2]) := by
  refine spec_of (C := ⟨Tryz.prog, LL, EE, []⟩) (rl := [.s (printM m).1, .n .i64 (printM m).2]) (rs := [.tmp 2, .tmp 3]) CCx LLs Tryz.func32 rfl (by kernel_rfl) rfl (by kernel_rfl) (Nat.le_of_ble_eq_true rfl) (fun i => rfl) (fun i => by first | rfl | exact (Bool.or_false _).trans (eSd_men _ _)) rfl (by decide) ?_
  refine gr ?_
  refine cl (rcheck_ok m hf) ?_
  refine gr ?_
  refine br (fun a => ?_) (fun a => ?_)
  · try refine gr ?_
    rw [show printM m = ([], checkM m) from if_pos a]
    exact ⟨rfl, rfl⟩
  · have hm := ManOk.of (Decidable.not_not.1 a)
    rw [show printM m = (textM m, 0) from if_neg a]
    have hn := name_len hm.n
    have hv := ver_len hm.v
    have rn := rulesL_len wNeeds m.needs fun r hr => rule_len (hm.ns r hr)
    have rc := rulesL_len wClash m.clashes fun r hr => rule_len (hm.cs r hr)
    have rn2 : (rulesL wNeeds m.needs).length ≤ 16 * 60 := Nat.le_trans rn (Nat.mul_le_mul hm.nl (by decide))
    have rc2 : (rulesL wClash m.clashes).length ≤ 16 * 62 := Nat.le_trans rc (Nat.mul_le_mul hm.cl (by decide))
    try refine gr ?_
    refine cd (rrules_ok wNeeds m.needs (by decide) hm.nl hm.ns) ?_
    refine gr ?_
    refine cd (rrules_ok wClash m.clashes (by decide) hm.cl hm.cs) ?_
    refine gr ?_
    have el := hm.el
    have pl : (preL m ++ rulesL wNeeds m.needs ++ rulesL wClash m.clashes).length ≤ 3000 := by simp [preL, lineL, join2, wHead, wName, wVers]; omega
    refine lp_hd [1] [1] (fun i : Nat => [(5, .s (preL m ++ rulesL wNeeds m.needs ++ rulesL wClash m.clashes ++ entsL (m.ents.take i))), (6, .n .i64 (i : Int))]) (fun i : Nat => []) (fun i : Nat => i ≤ m.ents.length) (fun i : Nat => m.ents.length - i) (0) id (id) (Nat.zero_le _) (fits_of (gr ?_) (gr ?_) (gr ?_) (gr ?_) (gr ?_)) ?_
    · first | exact True.intro | exact ⟨rfl, rfl⟩ | exact ⟨rfl, rfl, rfl⟩ | rfl | exact rowc (List.map_id _) | trivial
    · (refine ⟨?_, rfl⟩; simp [preL, lineL, join2, wHead, entsL, wName, wVers, wNeeds, wClash])
    · first | exact True.intro | exact ⟨rfl, rfl⟩ | exact ⟨rfl, rfl, rfl⟩ | rfl | exact rowc (List.map_id _) | trivial
    · first | exact True.intro | exact ⟨rfl, rfl⟩ | exact ⟨rfl, rfl, rfl⟩ | rfl | exact rowc (List.map_id _) | trivial
    · first | exact True.intro | exact ⟨rfl, rfl⟩ | exact ⟨rfl, rfl, rfl⟩ | rfl | exact rowc (List.map_id _) | trivial
    rintro i hi
    have hlen := entsL_len (m.ents.take i) fun x hx => hm.ents x (List.mem_of_mem_take hx)
    have hlen2 : (m.ents.take i).length * 500 ≤ 64 * 500 := Nat.mul_le_mul (by rw [List.length_take]; omega) (by decide)
    try refine gr ?_
    refine br (fun e => ?_) (fun e => ?_)
    · have htk : entsL (m.ents.take (i + 1)) = entsL (m.ents.take i) ++ entL (m.ents.getD i dE) := by
        rw [take_at m.ents i dE (by omega), entsL, List.flatMap_append]; simp [entsL]
      have hx := hm.ents _ (getD_mem (x := dE) (show i < m.ents.length by omega))
      have hxl := entL_len hx
      try refine gr ?_
      generalize m.ents.getD i dE = x at hx hxl htk ⊢
      refine cl (rline_ok x hx) ?_
      refine gr ?_
      refine ⟨by simp at pl ⊢; omega, ?_⟩
      refine ⟨i + 1, (by omega), (by omega), fits_of (gr ?_) (gr ?_) (gr ?_) (gr ?_) (gr ?_)⟩
      · first | exact True.intro | exact ⟨rfl, rfl⟩ | exact ⟨rfl, rfl, rfl⟩ | rfl | exact rowc (List.map_id _) | trivial
      · (rw [htk]; simp)
      · first | exact True.intro | exact ⟨rfl, rfl⟩ | exact ⟨rfl, rfl, rfl⟩ | rfl | exact rowc (List.map_id _) | trivial
      · first | exact True.intro | exact ⟨rfl, rfl⟩ | exact ⟨rfl, rfl, rfl⟩ | rfl | exact rowc (List.map_id _) | trivial
      · first | exact True.intro | exact ⟨rfl, rfl⟩ | exact ⟨rfl, rfl, rfl⟩ | rfl | exact rowc (List.map_id _) | trivial
    · try refine gr ?_
      rw [List.take_of_length_le (by omega)]
      simp [textM]
end Go.Proofs.YtagjeabdcjcchaaGreatDoor.Ev
