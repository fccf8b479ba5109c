/- The laws of redo: each commit counts one. -/
import Derived.Test.YtnmaaijeamlplaaDoorGk
import Derived.Test.YtnmaaijeamlplaaDoorKI
set_option linter.all false
namespace Go.Proofs.YtnmaaijeamlplaaDoor.Ev
open Go.RowKit
open Go.Proofs.YtnmaaijeamlplaaDoor.Mem
set_option linter.unusedVariables false
set_option linter.unusedSimpArgs false
set_option maxRecDepth 100000
theorem eWsd (w : List Wr) : eWs w = .sl 2 Wr ⟨0, []⟩ w eWr := rfl
theorem gt {p q : Prop} (hq : q) (h : p ↔ q := by simp (config := { maxSteps := 10000000 }) (disch := omega) only [eWsd, fx3, eFd, bl4, ebd2, wrc, tmn, nb_len, sha_len, cSd, tdq, cDd, true_implies, lenl, bne_self_eq_false, Int.reduceLT, Int.reduceLE, Int.reduceEq, Int.reduceNe, Int.reduceAdd, Int.reduceSub, Int.reduceMul, Int.reduceNeg, ebr, wr64, sdl, ler, true_or, or_true, rng, eok, List.length_map, List.length_range, List.length_append, List.length_replicate, List.length_set, List.length_take, List.length_drop, List.not_mem_nil, false_implies, implies_true, ↓ec, ↓eg, ↓eo, ↓eox, ↓es, ↓et1, em, emR, efz, enl, ebt, et, ev, fx, fx2, dk, ewr, odk, eBd, List.drop_nil, eEE, Option.some.injEq, Option.isSome_none, Int.reduceToNat, List.replicate_zero, Bool.or_self, rSd, rWd, ez, ef, ebd, et2, Int.toNat_natCast, Option.map_none, Option.map_some, List.all_cons, List.all_nil, Bool.and_self, List.cons_append, List.nil_append, List.append_nil, List.append_assoc, ep, ew, Option.isSome_some, id_eq, Nat.reduceLT, Nat.reduceSub, Bool.false_or, Bool.true_or, Bool.or_true, Bool.true_and, Bool.and_true, reduceCtorEq, Nat.reduceBEq, Bool.true_eq_false, Bool.false_eq_true, List.map_cons, List.map_nil, List.take_succ_cons, List.take_zero, List.drop_succ_cons, List.drop_zero, List.length_cons, List.length_nil, Nat.zero_add, Nat.reduceAdd, Nat.reduceLeDiff, Bool.not_true, Bool.not_false, List.getElem?_cons_succ, List.getElem?_cons_zero, Option.bind_some, ne_eq, not_false_eq_true, ↓eh1, eh, en, List.getD_cons_zero, List.getD_cons_succ, Nat.reduceEqDiff, ↓reduceIte, cond_true, cond_false, Bool.or_false, decide_true, decide_false, true_and, and_true, decide_eq_true_eq, decide_eq_false_iff_not, Bool.not_eq_true', Bool.not_eq_false', not_true_eq_false, Decidable.not_not]; exact Iff.rfl) : p := h.2 hq
/-- What a commit that is done comes to. -/
structure Done (c t : List (List UInt8)) (w : List Wr) (e e' : Int) : Prop where
  cm : commitM ⟨c, [], -1, false⟩ w = (⟨t, [], -1, false⟩, 0)
  cl : Clean ⟨t, [], -1, false⟩ e'
  len : t.length = c.length
  z : w.length = 0 → e' = e
  p : w.length ≠ 0 → e' = e + 1
  le : e' ≤ e + 1
  ri : riseL (lim ⟨c, [], -1, false⟩) (-1) w = true
  at_ : ∀ i, i < c.length - c.length / 4 → ((∃ x ∈ w, x.at_ = i ∧ (homes ⟨t, [], -1, false⟩).getD i [] = x.data) ∨ ((∀ x ∈ w, x.at_ ≠ i) ∧ (homes ⟨t, [], -1, false⟩).getD i [] = (homes ⟨c, [], -1, false⟩).getD i []))
theorem counts_math {c : List (List UInt8)} {e : Int} (h : Clean ⟨c, [], -1, false⟩ e) (he : e < 20) (w : List Wr) : (∃ k, ¬ k = 0 ∧ commitM ⟨c, [], -1, false⟩ w = (⟨c, [], -1, false⟩, k)) ∨ ∃ t e', Done c t w e e' := by
  by_cases hw : Wok ⟨c, [], -1, false⟩ w
  · obtain ⟨t, g1, g2, g3, g4⟩ := commit_whole h he hw
    exact .inr ⟨t, e + 1, g1, g2, g3, fun h0 => absurd h0 hw.2.2.1, fun _ => rfl, by omega, hw.1, g4⟩
  · rcases commit_else h (by omega) hw with g | ⟨g, h0⟩ | g
    · exact .inl ⟨1, by omega, g⟩
    · obtain rfl : w = [] := List.eq_nil_of_length_eq_zero h0
      exact .inr ⟨c, e, g, h, rfl, fun _ => rfl, fun h1 => absurd rfl h1, by omega, rfl, fun i hi => .inr ⟨fun x hx => (by cases hx), rfl⟩⟩
    · exact .inl ⟨10, by omega, g⟩
theorem rise_lt (lim : Int) : ∀ (w : List Wr) (last : Int), riseL lim last w = true → ∀ i j, i < j → j < w.length → (w.getD i ⟨0, []⟩).at_ < (w.getD j ⟨0, []⟩).at_
  | [], _, _, i, j, _, hj => by simp at hj
  | x :: w, last, h, i, j, hij, hj => by
    have h1 : riseL lim x.at_ w = true := by
      unfold riseL at h
      split at h
      · cases h
      · exact h
    obtain ⟨j, rfl⟩ : ∃ q, j = q + 1 := ⟨j - 1, by omega⟩
    simp only [List.length_cons] at hj
    cases i with
    | zero =>
      have := (riseL_mem lim w _ h1 (w.getD j ⟨0, []⟩) (getD_mem (by omega))).1
      exact this
    | succ i => exact rise_lt lim w _ h1 i j (by omega) (by omega)
set_option maxHeartbeats 4000000 in
theorem counts_ok (n : UInt8) (l : List (List Wr)) (hl : l.length ≤ 100000000000000) (hw : ∀ w ∈ l, w.length ≤ 100000000000000) : Spec Tryd.prog LL 7 [.n .u8 (n.toNat : Int), .sl 1 (List Wr) [] l eWs] (.b true) := by
  refine spec_of (C := ⟨Tryd.prog, LL, EE⟩) (rl := [.b true]) (rs := [.tmp 4]) CCx LLs Tryd.func7 rfl (by kernel_rfl) rfl (by kernel_rfl) (Nat.le_of_ble_eq_true rfl) (fun i => rfl) (fun i => rfl) rfl (by decide) ?_
  refine gt ?_
  refine cln (ready_ok' n [] (by simp)) (gt ?_) ?_
  · trivial
  refine gt ?_
  obtain ⟨s, e, r1, r2, r3, r4⟩ := ready_clean n.toNat []
  rw [r1]
  dsimp only
  refine gt ?_
  refine lp_hr [1] [] (fun x : Nat × List (List UInt8) => [(5, .p 5 0), (7, .n .i64 (x.1 : Int))]) (fun x : Nat × List (List UInt8) => [(5, cD ⟨x.2, [], -1, false⟩)]) (fun x : Nat × List (List UInt8) => x.1 ≤ l.length ∧ x.1 ≤ 12 ∧ x.2.length = s.length ∧ ∃ e : Int, Clean ⟨x.2, [], -1, false⟩ e ∧ e ≤ 3 + x.1) (fun x : Nat × List (List UInt8) => l.length - x.1) ((0, s)) id ⟨Nat.zero_le _, Nat.zero_le _, rfl, e, r2, by dsimp only; omega⟩ (fits_of (gt ?_) (gt ?_) (gt ?_) (gt ?_) (gt ?_)) ?_
  · first | trivial | rfl | exact ⟨rfl, rfl⟩ | exact ⟨rfl, rfl, rfl⟩ | exact rowc (List.map_id _)
  · first | trivial | rfl | exact ⟨rfl, rfl⟩ | exact ⟨rfl, rfl, rfl⟩ | exact rowc (List.map_id _)
  · first | trivial | rfl | exact ⟨rfl, rfl⟩ | exact ⟨rfl, rfl, rfl⟩ | exact rowc (List.map_id _)
  · first | trivial | rfl | exact ⟨rfl, rfl⟩ | exact ⟨rfl, rfl, rfl⟩ | exact rowc (List.map_id _)
  · first | trivial | rfl | exact ⟨rfl, rfl⟩ | exact ⟨rfl, rfl, rfl⟩ | exact rowc (List.map_id _)
  rintro ⟨k, c⟩ ⟨hk, hk2, hcl, e, hc, he⟩
  dsimp only at hk hk2 hcl hc he ⊢
  have hn := hc.n
  dsimp only at hn
  have qh : ∀ t : List (List UInt8), homes ⟨t, [], -1, false⟩ = (List.range (t.length - t.length / 4)).map fun i => got ⟨t, [], -1, false⟩ (((t.length / 4 : Nat) : Int) + (i : Nat)) := fun t => rfl
  refine gt ?_
  refine br (fun b1 => ?_) (fun b1 => ?_)
  · refine gt ?_
    refine br (fun b2 => ?_) (fun b2 => ?_)
    · refine gt ?_
      refine cl (home_ok ⟨c, [], -1, false⟩ (by simp) (ready0 hc.u.1 hc.u.2.1) hc.u.1) ?_
      refine gt ?_
      refine cl (epochL ⟨c, [], -1, false⟩ (by simp)) ?_
      refine gt ?_
      rw [epoch_is hc.u hc.n.1 hc.b ⟨hc.q.1, by have := hc.q.2; omega⟩]
      dsimp only
      have hwk : (l.getD k []).length ≤ 100000000000000 := hw _ (getD_mem (by omega))
      generalize hgw : l.getD k [] = w at hwk
      rcases counts_math hc (by omega) w with ⟨q, q0, q1⟩ | ⟨t, e', D⟩
      · refine cd (commit_ok ⟨c, [], -1, false⟩ w (by simp) (by unfold Small; dsimp only; omega) (by dsimp only; omega) hwk) ?_
        refine gt ?_
        rw [q1]
        dsimp only
        refine br (fun c1 => ?_) (fun c1 => ?_)
        · refine gt ?_
          refine cl (samed_ok ⟨c, [], -1, false⟩ (by simp) (by dsimp only; omega)) ?_
          refine gt ?_
          refine ⟨(k + 1, c), id, ⟨by dsimp only; omega, by dsimp only; omega, hcl, e, hc, by dsimp only; omega⟩, (by dsimp only; omega), fits_of (gt ?_) (gt ?_) (gt ?_) (gt ?_) (gt ?_)⟩
          · first | trivial | rfl | exact ⟨rfl, rfl⟩ | exact ⟨rfl, rfl, rfl⟩ | exact rowc (List.map_id _)
          · first | trivial | rfl | exact ⟨rfl, rfl⟩ | exact ⟨rfl, rfl, rfl⟩ | exact rowc (List.map_id _)
          · first | trivial | rfl | exact ⟨rfl, rfl⟩ | exact ⟨rfl, rfl, rfl⟩ | exact rowc (List.map_id _)
          · first | trivial | rfl | exact ⟨rfl, rfl⟩ | exact ⟨rfl, rfl, rfl⟩ | exact rowc (List.map_id _)
          · first | trivial | rfl | exact ⟨rfl, rfl⟩ | exact ⟨rfl, rfl, rfl⟩ | exact rowc (List.map_id _)
        · exact absurd (Decidable.not_not.1 c1) q0
      · have hu := D.cl
        have dl := D.len
        refine cd (commit_ok ⟨c, [], -1, false⟩ w (by simp) (by unfold Small; dsimp only; omega) (by dsimp only; omega) hwk) ?_
        refine gt ?_
        rw [D.cm]
        dsimp only
        refine gt ?_
        refine cl (home_ok ⟨t, [], -1, false⟩ (by simp) (ready0 hu.u.1 hu.u.2.1) hu.u.1) ?_
        refine gt ?_
        refine cl (epochL ⟨t, [], -1, false⟩ (by simp)) ?_
        refine gt ?_
        rw [epoch_is hu.u hu.n.1 hu.b ⟨hu.q.1, by have := hu.q.2; omega⟩]
        dsimp only
        have hlc := homes_len ⟨c, [], -1, false⟩
        have hlt := homes_len ⟨t, [], -1, false⟩
        unfold lg at hlc hlt
        dsimp only at hlc hlt
        have hat := D.at_
        rw [← qh c, ← qh t]
        generalize homes ⟨c, [], -1, false⟩ = Hc at hlc hat
        generalize homes ⟨t, [], -1, false⟩ = Ht at hlt hat
        have hri := riseL_mem _ w _ D.ri
        have hlt' := rise_lt _ w _ D.ri
        have hone := rise_one _ w _ D.ri
        have hz0 := D.z
        have hp0 := D.p
        have hle := D.le
        have hqq := hc.q
        have hwl : (l.getD k []).length = w.length := by rw [hgw]
        refine br (fun k1 => ?_) (fun k1 => ?_)
        · have hcs : (w.length = 0 ∧ e' = e) ∨ (0 < w.length ∧ e' = e + 1) := by
            rcases Nat.eq_zero_or_pos w.length with hz | hz
            · exact .inl ⟨hz, hz0 hz⟩
            · exact .inr ⟨hz, hp0 (by omega)⟩
          have fin : ∀ j : Nat, j < Ht.length → ∀ a : Nat, a ≤ w.length → (∀ i, i < a → (w.getD i ⟨0, []⟩).at_ < j) → (∀ i, a ≤ i → i < w.length → (j : Int) ≤ (w.getD i ⟨0, []⟩).at_) →
              (a < w.length ∧ (w.getD a ⟨0, []⟩).at_ = j → Ht.getD j [] = (w.getD a ⟨0, []⟩).data) ∧ (¬ (a < w.length ∧ (w.getD a ⟨0, []⟩).at_ = j) → Ht.getD j [] = Hc.getD j []) := fun j hj a ha ha1 ha2 => by
            have hx := hat j (by omega)
            refine ⟨fun ⟨q1, q2⟩ => ?_, fun q => ?_⟩
            · rcases hx with ⟨x, hx1, hx2, hx3⟩ | ⟨hx1, _⟩
              · rw [hx3, hone x hx1 (w.getD a ⟨0, []⟩) (getD_mem q1) (by omega)]
              · exact absurd q2 (hx1 _ (getD_mem q1))
            · rcases hx with ⟨x, hx1, hx2, hx3⟩ | ⟨_, hx2⟩
              · exfalso
                obtain ⟨i, hi, rfl⟩ := List.getElem_of_mem hx1
                have eW : w[i] = w.getD i ⟨0, []⟩ := by rw [List.getD_eq_getElem?_getD, List.getElem?_eq_getElem hi]; rfl
                rw [eW] at hx2
                rcases Nat.lt_trichotomy i a with h | h | h
                · have := ha1 i h; omega
                · subst h; exact q ⟨hi, hx2⟩
                · have h1 := hlt' a i h hi
                  have h2 := ha2 a (Nat.le_refl _) (by omega)
                  omega
              · exact hx2
          rcases hcs with ⟨hz, he'⟩ | ⟨hz, he'⟩
          · subst he'
            refine gt ?_
            rw [hgw]
            refine br (fun k2 => ?_) (fun k2 => ?_)
            · exfalso; omega
            · refine gt ?_
              rw [hgw]
              refine br (fun k3 => ?_) (fun k3 => ?_)
              · refine gt ?_
                refine lp_hd [1, 5, 7, 8, 12, 14] [5, 12] (fun x : Nat × Nat => [(18, .n .i64 (x.1 : Int)), (19, .n .i64 (x.2 : Int))]) (fun x : Nat × Nat => []) (fun x : Nat × Nat => x.2 ≤ Ht.length ∧ x.1 ≤ w.length ∧ (∀ i, i < x.1 → (w.getD i ⟨0, []⟩).at_ < x.2) ∧ (∀ i, x.1 ≤ i → i < w.length → (x.2 : Int) ≤ (w.getD i ⟨0, []⟩).at_)) (fun x : Nat × Nat => Ht.length - x.2) ((0, 0)) id (id) ⟨Nat.zero_le _, Nat.zero_le _, fun i hi => absurd hi (Nat.not_lt_zero _), fun i _ hi => by have := (hri _ (getD_mem (x := ⟨0, []⟩) hi)).1; dsimp only; omega⟩ (fits_of (gt ?_) (gt ?_) (gt ?_) (gt ?_) (gt ?_)) ?_
                · first | trivial | rfl | exact ⟨rfl, rfl⟩ | exact ⟨rfl, rfl, rfl⟩ | exact rowc (List.map_id _)
                · first | trivial | rfl | exact ⟨rfl, rfl⟩ | exact ⟨rfl, rfl, rfl⟩ | exact rowc (List.map_id _)
                · first | trivial | rfl | exact ⟨rfl, rfl⟩ | exact ⟨rfl, rfl, rfl⟩ | exact rowc (List.map_id _)
                · first | trivial | rfl | exact ⟨rfl, rfl⟩ | exact ⟨rfl, rfl, rfl⟩ | exact rowc (List.map_id _)
                · first | trivial | rfl | exact ⟨rfl, rfl⟩ | exact ⟨rfl, rfl, rfl⟩ | exact rowc (List.map_id _)
                rintro ⟨a, j⟩ ⟨i1, i2, i3, i4⟩
                dsimp only at i1 i2 i3 i4 ⊢
                refine gt ?_
                refine br (fun m1 => ?_) (fun m1 => ?_)
                · refine gt ?_
                  have fj := fin j (by omega) a i2 i3 i4
                  rw [hgw]
                  refine br (fun m2 => ?_) (fun m2 => ?_)
                  · exfalso; omega
                  · have f1 := fj.2 (fun h => m2 (by omega))
                    refine gt ?_
                    refine br (fun m4 => ?_) (fun m4 => ?_)
                    · exact absurd f1 m4
                    · refine gt ?_
                      refine ⟨(a, j + 1), ⟨by dsimp only; omega, i2, fun i hi => by have := i3 i hi; dsimp only; omega, fun i hi hi2 => by dsimp only at hi; omega⟩, (by dsimp only; omega), fits_of (gt ?_) (gt ?_) (gt ?_) (gt ?_) (gt ?_)⟩
                      · first | trivial | rfl | exact ⟨rfl, rfl⟩ | exact ⟨rfl, rfl, rfl⟩ | exact rowc (List.map_id _)
                      · first | trivial | rfl | exact ⟨rfl, rfl⟩ | exact ⟨rfl, rfl, rfl⟩ | exact rowc (List.map_id _)
                      · first | trivial | rfl | exact ⟨rfl, rfl⟩ | exact ⟨rfl, rfl, rfl⟩ | exact rowc (List.map_id _)
                      · first | trivial | rfl | exact ⟨rfl, rfl⟩ | exact ⟨rfl, rfl, rfl⟩ | exact rowc (List.map_id _)
                      · first | trivial | rfl | exact ⟨rfl, rfl⟩ | exact ⟨rfl, rfl, rfl⟩ | exact rowc (List.map_id _)
                · refine gt ?_
                  refine ⟨(k + 1, t), id, ⟨by dsimp only; omega, by dsimp only; omega, dl.trans hcl, _, hu, by dsimp only; omega⟩, (by dsimp only; omega), fits_of (gt ?_) (gt ?_) (gt ?_) (gt ?_) (gt ?_)⟩
                  · first | trivial | rfl | exact ⟨rfl, rfl⟩ | exact ⟨rfl, rfl, rfl⟩ | exact rowc (List.map_id _)
                  · first | trivial | rfl | exact ⟨rfl, rfl⟩ | exact ⟨rfl, rfl, rfl⟩ | exact rowc (List.map_id _)
                  · first | trivial | rfl | exact ⟨rfl, rfl⟩ | exact ⟨rfl, rfl, rfl⟩ | exact rowc (List.map_id _)
                  · first | trivial | rfl | exact ⟨rfl, rfl⟩ | exact ⟨rfl, rfl, rfl⟩ | exact rowc (List.map_id _)
                  · first | trivial | rfl | exact ⟨rfl, rfl⟩ | exact ⟨rfl, rfl, rfl⟩ | exact rowc (List.map_id _)
              · exfalso; omega
          · subst he'
            refine gt ?_
            rw [hgw]
            refine br (fun k2 => ?_) (fun k2 => ?_)
            · refine gt ?_
              rw [hgw]
              refine br (fun k3 => ?_) (fun k3 => ?_)
              · exfalso; omega
              · refine gt ?_
                refine lp_hd [1, 5, 7, 8, 12, 14] [5, 12] (fun x : Nat × Nat => [(18, .n .i64 (x.1 : Int)), (19, .n .i64 (x.2 : Int))]) (fun x : Nat × Nat => []) (fun x : Nat × Nat => x.2 ≤ Ht.length ∧ x.1 ≤ w.length ∧ (∀ i, i < x.1 → (w.getD i ⟨0, []⟩).at_ < x.2) ∧ (∀ i, x.1 ≤ i → i < w.length → (x.2 : Int) ≤ (w.getD i ⟨0, []⟩).at_)) (fun x : Nat × Nat => Ht.length - x.2) ((0, 0)) id (id) ⟨Nat.zero_le _, Nat.zero_le _, fun i hi => absurd hi (Nat.not_lt_zero _), fun i _ hi => by have := (hri _ (getD_mem (x := ⟨0, []⟩) hi)).1; dsimp only; omega⟩ (fits_of (gt ?_) (gt ?_) (gt ?_) (gt ?_) (gt ?_)) ?_
                · first | trivial | rfl | exact ⟨rfl, rfl⟩ | exact ⟨rfl, rfl, rfl⟩ | exact rowc (List.map_id _)
                · first | trivial | rfl | exact ⟨rfl, rfl⟩ | exact ⟨rfl, rfl, rfl⟩ | exact rowc (List.map_id _)
                · first | trivial | rfl | exact ⟨rfl, rfl⟩ | exact ⟨rfl, rfl, rfl⟩ | exact rowc (List.map_id _)
                · first | trivial | rfl | exact ⟨rfl, rfl⟩ | exact ⟨rfl, rfl, rfl⟩ | exact rowc (List.map_id _)
                · first | trivial | rfl | exact ⟨rfl, rfl⟩ | exact ⟨rfl, rfl, rfl⟩ | exact rowc (List.map_id _)
                rintro ⟨a, j⟩ ⟨i1, i2, i3, i4⟩
                dsimp only at i1 i2 i3 i4 ⊢
                refine gt ?_
                refine br (fun m1 => ?_) (fun m1 => ?_)
                · refine gt ?_
                  have fj := fin j (by omega) a i2 i3 i4
                  rw [hgw]
                  refine br (fun m2 => ?_) (fun m2 => ?_)
                  · refine gt ?_
                    rw [hgw]
                    refine br (fun m3 => ?_) (fun m3 => ?_)
                    · have f1 := fj.1 ⟨by omega, m3⟩
                      refine gt ?_
                      rw [hgw]
                      refine br (fun m4 => ?_) (fun m4 => ?_)
                      · exact absurd f1 m4
                      · refine gt ?_
                        refine ⟨(a + 1, j + 1), ⟨by dsimp only; omega, by dsimp only; omega, fun i hi => by dsimp only at hi ⊢; rcases Nat.lt_or_ge i a with h | h; have := i3 i h; omega; rw [show i = a by omega]; omega, fun i hi hi2 => by dsimp only at hi ⊢; have := hlt' a i (by omega) hi2; omega⟩, (by dsimp only; omega), fits_of (gt ?_) (gt ?_) (gt ?_) (gt ?_) (gt ?_)⟩
                        · first | trivial | rfl | exact ⟨rfl, rfl⟩ | exact ⟨rfl, rfl, rfl⟩ | exact rowc (List.map_id _)
                        · first | trivial | rfl | exact ⟨rfl, rfl⟩ | exact ⟨rfl, rfl, rfl⟩ | exact rowc (List.map_id _)
                        · first | trivial | rfl | exact ⟨rfl, rfl⟩ | exact ⟨rfl, rfl, rfl⟩ | exact rowc (List.map_id _)
                        · first | trivial | rfl | exact ⟨rfl, rfl⟩ | exact ⟨rfl, rfl, rfl⟩ | exact rowc (List.map_id _)
                        · first | trivial | rfl | exact ⟨rfl, rfl⟩ | exact ⟨rfl, rfl, rfl⟩ | exact rowc (List.map_id _)
                    · have f1 := fj.2 (fun h => m3 h.2)
                      refine gt ?_
                      refine br (fun m4 => ?_) (fun m4 => ?_)
                      · exact absurd f1 m4
                      · refine gt ?_
                        refine ⟨(a, j + 1), ⟨by dsimp only; omega, i2, fun i hi => by have := i3 i hi; dsimp only; omega, fun i hi hi2 => by dsimp only at hi ⊢; have h5 := i4 a (Nat.le_refl _) (by omega); rcases Nat.eq_or_lt_of_le hi with h | h; subst h; omega; have := hlt' a i h hi2; omega⟩, (by dsimp only; omega), fits_of (gt ?_) (gt ?_) (gt ?_) (gt ?_) (gt ?_)⟩
                        · first | trivial | rfl | exact ⟨rfl, rfl⟩ | exact ⟨rfl, rfl, rfl⟩ | exact rowc (List.map_id _)
                        · first | trivial | rfl | exact ⟨rfl, rfl⟩ | exact ⟨rfl, rfl, rfl⟩ | exact rowc (List.map_id _)
                        · first | trivial | rfl | exact ⟨rfl, rfl⟩ | exact ⟨rfl, rfl, rfl⟩ | exact rowc (List.map_id _)
                        · first | trivial | rfl | exact ⟨rfl, rfl⟩ | exact ⟨rfl, rfl, rfl⟩ | exact rowc (List.map_id _)
                        · first | trivial | rfl | exact ⟨rfl, rfl⟩ | exact ⟨rfl, rfl, rfl⟩ | exact rowc (List.map_id _)
                  · have f1 := fj.2 (fun h => m2 (by omega))
                    refine gt ?_
                    refine br (fun m4 => ?_) (fun m4 => ?_)
                    · exact absurd f1 m4
                    · refine gt ?_
                      refine ⟨(a, j + 1), ⟨by dsimp only; omega, i2, fun i hi => by have := i3 i hi; dsimp only; omega, fun i hi hi2 => by dsimp only at hi; omega⟩, (by dsimp only; omega), fits_of (gt ?_) (gt ?_) (gt ?_) (gt ?_) (gt ?_)⟩
                      · first | trivial | rfl | exact ⟨rfl, rfl⟩ | exact ⟨rfl, rfl, rfl⟩ | exact rowc (List.map_id _)
                      · first | trivial | rfl | exact ⟨rfl, rfl⟩ | exact ⟨rfl, rfl, rfl⟩ | exact rowc (List.map_id _)
                      · first | trivial | rfl | exact ⟨rfl, rfl⟩ | exact ⟨rfl, rfl, rfl⟩ | exact rowc (List.map_id _)
                      · first | trivial | rfl | exact ⟨rfl, rfl⟩ | exact ⟨rfl, rfl, rfl⟩ | exact rowc (List.map_id _)
                      · first | trivial | rfl | exact ⟨rfl, rfl⟩ | exact ⟨rfl, rfl, rfl⟩ | exact rowc (List.map_id _)
                · refine gt ?_
                  refine ⟨(k + 1, t), id, ⟨by dsimp only; omega, by dsimp only; omega, dl.trans hcl, _, hu, by dsimp only; omega⟩, (by dsimp only; omega), fits_of (gt ?_) (gt ?_) (gt ?_) (gt ?_) (gt ?_)⟩
                  · first | trivial | rfl | exact ⟨rfl, rfl⟩ | exact ⟨rfl, rfl, rfl⟩ | exact rowc (List.map_id _)
                  · first | trivial | rfl | exact ⟨rfl, rfl⟩ | exact ⟨rfl, rfl, rfl⟩ | exact rowc (List.map_id _)
                  · first | trivial | rfl | exact ⟨rfl, rfl⟩ | exact ⟨rfl, rfl, rfl⟩ | exact rowc (List.map_id _)
                  · first | trivial | rfl | exact ⟨rfl, rfl⟩ | exact ⟨rfl, rfl, rfl⟩ | exact rowc (List.map_id _)
                  · first | trivial | rfl | exact ⟨rfl, rfl⟩ | exact ⟨rfl, rfl, rfl⟩ | exact rowc (List.map_id _)
            · exfalso; omega
        · exfalso; omega
    · refine cl (awake_ok) ?_
      refine gt ?_
      trivial
  · refine cl (awake_ok) ?_
    refine gt ?_
    trivial
end Go.Proofs.YtnmaaijeamlplaaDoor.Ev
