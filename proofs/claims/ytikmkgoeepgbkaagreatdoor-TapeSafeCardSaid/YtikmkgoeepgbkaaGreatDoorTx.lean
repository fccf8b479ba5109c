/- Headers are read. -/
import Derived.Test.YtikmkgoeepgbkaaGreatDoorTw
set_option linter.all false
namespace Go.Proofs.YtikmkgoeepgbkaaGreatDoor.Ev
open Go.RowKit
open Go.Proofs.YtikmkgoeepgbkaaGreatDoor.Mem
set_option linter.unusedVariables false
set_option linter.unusedSimpArgs false
set_option maxRecDepth 100000
theorem dec_bad {s : List UInt8} (e : ¬ (s.length = 512 ∧ (s.take 265).drop 257 = magM)) : decM s = (dH, 2) := if_pos e
/-- The numbers that were read so far, as cells. -/
def numC (l : List Nat) : List V := l.map (fun n : Nat => V.n .i64 (n : Int)) ++ List.replicate (5 - l.length) (.n .i64 0)
theorem numC_len {l : List Nat} (h : l.length ≤ 5) : (numC l).length = 5 := by simp [numC]; omega
theorem put_numC {l : List Nat} {n i : Nat} (h : i = l.length) (h5 : i < 5) : putV (numC l) i (.n .i64 (n : Int)) = numC (l ++ [n]) := by
  subst h
  obtain ⟨k, hk⟩ : ∃ k, 5 - l.length = k + 1 := ⟨4 - l.length, by omega⟩
  unfold numC
  rw [hk, List.length_append, List.length_singleton, show 5 - (l.length + 1) = k by omega, List.replicate_succ]
  simp [putV, cs]
  have e : ∀ (A : List V) (z : V) (R : List V), (A ++ z :: R).drop (A.length + 1) = R := fun A z R => by induction A with
    | nil => rfl
    | cons a A ih => simp
  have := e (l.map (fun n : Nat => V.n .i64 (n : Int))) (.n .i64 0) (List.replicate k (.n .i64 0))
  rwa [List.length_map] at this
theorem put_numC' {l : List Nat} {n : Nat} (h5 : l.length < 5) : List.take l.length (numC l) ++ V.n .i64 (n : Int) :: List.drop (l.length + 1) (numC l) = numC (l ++ [n]) := by
  rw [← put_numC rfl h5]
  simp [putV, cs]
theorem rn_nums (ρ : Nat → Nat) : ∀ (l : List Nat), rnL ρ (l.map (fun n : Nat => V.n .i64 (n : Int))) = l.map (fun n : Nat => V.n .i64 (n : Int))
  | [] => rfl
  | n :: l => by rw [List.map_cons, rnL, rn_nums ρ l]; rfl
theorem in_nums (al : Nat → Bool) : ∀ (l : List Nat), inML al (l.map (fun n : Nat => V.n .i64 (n : Int))) = true
  | [] => rfl
  | n :: l => by rw [List.map_cons, inML, in_nums al l]; rfl
theorem numC_eq (l : List Nat) : numC l = (l ++ List.replicate (5 - l.length) 0).map (fun n : Nat => V.n .i64 (n : Int)) := by
  unfold numC
  rw [List.map_append, List.map_replicate]
  rfl
theorem rn_numC (ρ : Nat → Nat) (l : List Nat) : rnL ρ (numC l) = numC l := by rw [numC_eq, rn_nums]
theorem in_numC (al : Nat → Bool) (l : List Nat) : inML al (numC l) = true := by rw [numC_eq, in_nums]
theorem wid_at {i : Nat} (h : i < 5) : widM.getD i 0 = 8 ∨ widM.getD i 0 = 12 := by
  rcases i with _ | _ | _ | _ | _ | i <;> first | exact .inl rfl | exact .inr rfl | omega
set_option maxHeartbeats 4000000 in
theorem hdec_ok (s : List UInt8) (hs : s.length ≤ 281474976710656) : Spec Tryz.prog LL 56 [.s s] (.tp [eHdr (decM s).1, .n .i64 (decM s).2]) := by
  refine spec_of (C := ⟨Tryz.prog, LL, EE, []⟩) (rl := [eHdr (decM s).1, .n .i64 (decM s).2]) (rs := [.cell 2 70, .tmp 3]) CCx LLs Tryz.func56 rfl (by kernel_rfl) rfl (by kernel_rfl) (Nat.le_of_ble_eq_true rfl) (fun i => rfl) (fun i => by first | rfl | exact (Bool.or_false _).trans (eSd_men _ _)) rfl (by decide) ?_
  refine gh ?_
  refine br (fun a => ?_) (fun a => ?_)
  · have hl : s.length = 512 := by omega
    try refine gh ?_
    refine br (fun b => ?_) (fun b => ?_)
    · try refine gh ?_
      rw [dec_bad fun e => b e.2]
      exact ⟨le_refl _, rfl⟩
    · have hr : decM s = _ := if_neg fun h => h ⟨hl, Decidable.not_not.1 b⟩
      try refine gh ?_
      refine cl (get_ok ((s.take 156).drop 148) (by simp; omega)) ?_
      refine gh ?_
      refine br (fun c => ?_) (fun c => ?_)
      · rw [if_pos c] at hr
        try refine gh ?_
        rw [hr]
        exact ⟨le_refl _, rfl⟩
      · rw [if_neg c] at hr
        try refine gh ?_
        refine cl (hsum_ok s hs) ?_
        refine gh ?_
        refine br (fun d => ?_) (fun d => ?_)
        · try refine gh ?_
          rw [hr, if_pos (by omega)]
          exact ⟨le_refl _, rfl⟩
        · rw [if_neg (by omega)] at hr
          try refine gh ?_
          refine lp_hd [0, 2] [2] (fun x : Nat × List Nat => [(6, .p 6 0), (7, .n .i64 (x.1 : Int)), (33, .n .i64 (x.2.length : Int))]) (fun x : Nat × List Nat => [(6, .cells 122 (numC x.2))]) (fun x : Nat × List Nat => x.2.length ≤ 5 ∧ x.1 ≤ 100 + 12 * x.2.length ∧ getsM s widM 100 [] = getsM s (widM.drop x.2.length) x.1 x.2) (fun x : Nat × List Nat => 5 - x.2.length) ((100, [])) id (id) ⟨Nat.zero_le _, Nat.le_refl _, rfl⟩ (fits_of (gh ?_) (gh ?_) (gh ?_) (gh ?_) (gh ?_)) ?_
          · first | exact True.intro | exact ⟨rfl, rfl⟩ | exact ⟨rfl, rfl, rfl⟩ | rfl | exact rowc (List.map_id _) | trivial
          · first | exact True.intro | exact ⟨rfl, rfl⟩ | exact ⟨rfl, rfl, rfl⟩ | rfl | exact rowc (List.map_id _) | trivial
          · first | exact True.intro | exact ⟨rfl, rfl⟩ | exact ⟨rfl, rfl, rfl⟩ | rfl | exact rowc (List.map_id _) | trivial
          · exact ⟨by rw [rn_numC]; rfl, in_numC _ _⟩
          · first | exact True.intro | exact ⟨rfl, rfl⟩ | exact ⟨rfl, rfl, rfl⟩ | rfl | exact rowc (List.map_id _) | trivial
          rintro ⟨p, acc⟩ ⟨h1, h2, h3⟩
          dsimp only at h1 h2 h3 ⊢
          have hnl := numC_len h1
          try refine gh ?_
          refine br (fun e => ?_) (fun e => ?_)
          · try refine gh ?_
            have hw := wid_at (i := acc.length) (by omega)
            rw [drop_at widM acc.length 0 (by simp [widM]; omega), getsM] at h3
            refine wid_ld (by omega) (hK := ?_)
            generalize hwe : widM.getD acc.length 0 = w at hw h3 ⊢
            try refine gh ?_
            refine cl (get_ok ((s.take (p + w)).drop p) (by simp; omega)) ?_
            refine gh ?_
            have hg : (getM ((s.take (p + w)).drop p)).1 = (getM ((s.take (p + w)).drop p)).1 := rfl
            generalize getM ((s.take (p + w)).drop p) = g at h3 ⊢
            obtain ⟨g1, g2⟩ := g
            dsimp only at h3 ⊢
            refine br (fun f => ?_) (fun f => ?_)
            · rw [if_neg f] at h3
              try refine gh ?_
              rw [hr, h3, if_pos f]
              exact ⟨le_refl _, rfl⟩
            · rw [if_pos (Decidable.not_not.1 f)] at h3
              try refine gh ?_
              refine wid_ld (by omega) (hK := ?_)
              rw [hwe]
              try refine gh ?_
              refine ⟨(p + w, acc ++ [g1]), ⟨by simp; omega, by simp; omega, by simpa using h3⟩, (by simp; omega), fits_of (gh ?_) (gh ?_) (gh ?_) (gh ?_) (gh ?_)⟩
              · first | exact True.intro | exact ⟨rfl, rfl⟩ | exact ⟨rfl, rfl, rfl⟩ | rfl | exact rowc (List.map_id _) | trivial
              · first | exact True.intro | exact ⟨rfl, rfl⟩ | exact ⟨rfl, rfl, rfl⟩ | rfl | exact rowc (List.map_id _) | trivial
              · first | exact True.intro | exact ⟨rfl, rfl⟩ | exact ⟨rfl, rfl, rfl⟩ | rfl | exact rowc (List.map_id _) | trivial
              · exact ⟨by rw [put_numC' (by omega), rn_numC], in_numC _ _⟩
              · first | exact True.intro | exact ⟨rfl, rfl⟩ | exact ⟨rfl, rfl, rfl⟩ | rfl | exact rowc (List.map_id _) | trivial
          · obtain ⟨n1, n2, n3, n4, n5, rfl⟩ : ∃ n1 n2 n3 n4 n5, acc = [n1, n2, n3, n4, n5] := by
              rcases acc with _ | ⟨n1, _ | ⟨n2, _ | ⟨n3, _ | ⟨n4, _ | ⟨n5, _ | ⟨n6, acc⟩⟩⟩⟩⟩⟩ <;> simp at e h1
              exact ⟨_, _, _, _, _, rfl⟩
            rw [show widM.drop [n1, n2, n3, n4, n5].length = [] from rfl, getsM] at h3
            rw [h3, if_neg (by simp)] at hr
            dsimp only at hr
            rw [hr, show numC [n1, n2, n3, n4, n5] = [.n .i64 (n1 : Int), .n .i64 (n2 : Int), .n .i64 (n3 : Int), .n .i64 (n4 : Int), .n .i64 (n5 : Int)] from rfl]
            try refine gh ?_
            refine cd (hcut_ok (s.take 100) (by simp; omega)) ?_
            refine gh ?_
            refine cd (hcut_ok ((s.take 257).drop 157) (by simp; omega)) ?_
            refine gh ?_
            refine cd (hcut_ok ((s.take 500).drop 345) (by simp; omega)) ?_
            refine gh ?_
            exact le_refl _
  · try refine gh ?_
    rw [dec_bad fun e => by omega]
    exact ⟨le_refl _, rfl⟩
end Go.Proofs.YtikmkgoeepgbkaaGreatDoor.Ev
