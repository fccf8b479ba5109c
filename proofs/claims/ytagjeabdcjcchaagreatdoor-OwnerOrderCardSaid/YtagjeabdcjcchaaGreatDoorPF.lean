/- Databases: how the program reads one. -/
import Derived.Test.YtagjeabdcjcchaaGreatDoorPE
set_option linter.all false
namespace Go.Proofs.YtagjeabdcjcchaaGreatDoor.Ev
open Go.RowKit
open Go.Proofs.YtagjeabdcjcchaaGreatDoor.Mem
set_option linter.unusedVariables false
set_option linter.unusedSimpArgs false
set_option maxRecDepth 100000
noncomputable def hMa : Elp := ⟨5, Man, dMn, eMan, cMan⟩
theorem dB_le : le (.ag [.nl, .nl]) (eBas dB) := ⟨.inr ⟨rfl, _, _, _, _, rfl⟩, .inr ⟨rfl, _, _, _, _, rfl⟩, trivial⟩
theorem cut_len {s : List UInt8} {c : UInt8} (h : (Lib.cut s [c]).2.2 = true) : s.length = (Lib.cut s [c]).1.length + 1 + (Lib.cut s [c]).2.1.length := by
  have := congrArg List.length (cut_eq h)
  simp at this
  omega
theorem cut_le (s : List UInt8) (c : UInt8) : (Lib.cut s [c]).1.length ≤ s.length := by
  unfold Lib.cut
  split <;> simp <;> omega
theorem rdPack_len (s w : List UInt8) : (rdPack s w).2.1.length ≤ s.length := by
  unfold rdPack
  split <;> simp
set_option maxHeartbeats 4000000 in
theorem oread_ok (s : List UInt8) (hs : s.length ≤ 4000000) : Spec Tryz.prog LL 41 [.s s] (.tp [eBas (readB s).1, .b (readB s).2]) := by
  refine spec_of (C := ⟨Tryz.prog, LL, EE, []⟩) (rl := [eBas (readB s).1, .b (readB s).2]) (rs := [.cell 2 25, .tmp 3]) CCx LLs Tryz.func41 rfl (by kernel_rfl) rfl (by kernel_rfl) (Nat.le_of_ble_eq_true rfl) (fun i => rfl) (fun i => by first | rfl | exact (Bool.or_false _).trans (eSd_men _ _)) rfl (by decide) ?_
  refine gb ?_
  refine cl (cutpre_ok s wBase) ?_
  refine gb ?_
  have htp : Lib.hasPrefix s wBase = true → Lib.trimPrefix s wBase = s.drop 7 := fun h => by unfold Lib.trimPrefix; rw [if_pos h]; rfl
  have h0 : readB s = if Lib.hasPrefix s wBase = true then readF (s.length + 1) (Lib.trimPrefix s wBase) dB else (dB, false) := by
    unfold readB
    cases hq : Lib.hasPrefix s wBase with
    | false => rfl
    | true => rw [htp hq]; rfl
  have hl0 : (Lib.trimPrefix s wBase).length ≤ s.length := by unfold Lib.trimPrefix; split <;> simp
  generalize Lib.trimPrefix s wBase = r0 at h0 hl0 ⊢
  generalize Lib.hasPrefix s wBase = ok0 at h0 ⊢
  clear htp
  refine lp_nilc 4 25 [.nl, .nl] 0 201 40 hMa (gb ?_) (gb ?_) (gb ?_) ?_
  · trivial
  · trivial
  · trivial
  refine lp_nilc 4 25 [.ow 201 0, .nl] 1 202 54 hSh (gb ?_) (gb ?_) (gb ?_) ?_
  · trivial
  · trivial
  · trivial
  refine lp_hr [2] [2] (fun x : Nat × List UInt8 × Bool × Bas => [(4, .p 4 0), (5, .s x.2.1), (6, .b x.2.2.1)]) (fun x : Nat × List UInt8 × Bool × Bas => [(4, .cells 25 [.ow 201 x.2.2.2.packs.length, .ow 202 x.2.2.2.dirs.length]), (201, rM x.2.2.2.packs), (202, rSh x.2.2.2.dirs)]) (fun x : Nat × List UInt8 × Bool × Bas => readB s = (if x.2.2.1 = true then readF x.1 x.2.1 x.2.2.2 else (x.2.2.2, false)) ∧ (x.2.2.1 = true → x.2.1.length < x.1) ∧ x.2.1.length ≤ s.length ∧ x.2.2.2.packs.length ≤ 32 ∧ x.2.2.2.dirs.length ≤ 2048) (fun x : Nat × List UInt8 × Bool × Bas => x.1) ((s.length + 1, r0, ok0, dB)) id ⟨h0, fun _ => by dsimp only; omega, hl0, by simp [dB], by simp [dB]⟩ (fits_of (gb ?_) (gb ?_) (gb ?_) (gb ?_) (gb ?_)) ?_
  · first | exact True.intro | exact ⟨rfl, rfl⟩ | exact ⟨rfl, rfl, rfl⟩ | rfl | exact rowc (List.map_id _) | trivial
  · first | exact True.intro | exact ⟨rfl, rfl⟩ | exact ⟨rfl, rfl, rfl⟩ | rfl | exact rowc (List.map_id _) | trivial
  · first | exact True.intro | exact ⟨rfl, rfl⟩ | exact ⟨rfl, rfl, rfl⟩ | rfl | exact rowc (List.map_id _) | trivial
  · first | exact True.intro | exact ⟨rfl, rfl⟩ | exact ⟨rfl, rfl, rfl⟩ | rfl | exact rowc (List.map_id _) | trivial
  · first | exact True.intro | exact ⟨rfl, rfl⟩ | exact ⟨rfl, rfl, rfl⟩ | rfl | exact rowc (List.map_id _) | trivial
  rintro ⟨k, rest, ok, b⟩ ⟨hr, hk, hl, hp, hd⟩
  dsimp only at hr hk hl hp hd ⊢
  cases ok with
  | false =>
    rw [if_neg (by decide)] at hr
    try refine gb ?_
    rw [hr]
    exact ⟨le_refl _, rfl⟩
  | true =>
    have hk := hk rfl
    rw [if_pos rfl] at hr
    obtain ⟨k', rfl⟩ : ∃ k', k = k' + 1 := ⟨k - 1, by omega⟩
    rw [readF] at hr
    try refine gb ?_
    refine br (fun c => ?_) (fun c => ?_)
    · rw [if_neg (show ¬ rest = wEnd from c)] at hr
      try refine gb ?_
      have hq1 := cut_le rest 10
      have hq2 := cut_len (s := rest) (c := 10)
      refine cl (scut_ok rest [10] (by omega)) ?_
      refine gb ?_
      generalize Lib.cut rest [10] = q at hr hq1 hq2 ⊢
      obtain ⟨first, rest2, okc⟩ := q
      dsimp only at hr hq1 hq2 ⊢
      have hsp := sp_pos 32 first
      have hw1 := getD_len (sp_le 32 first) 1
      have hw2 := getD_len (sp_le 32 first) 2
      refine cl (split_ok first 32 (by omega)) ?_
      refine gb ?_
      generalize sp 32 first = L at hr hsp hw1 hw2 ⊢
      cases okc with
      | false =>
        rw [if_pos rfl] at hr
        try refine gb ?_
        rw [hr]
        exact ⟨dB_le, rfl⟩
      | true =>
        have hq2 := hq2 rfl
        rw [if_neg (by decide)] at hr
        by_cases c1 : L.getD 0 [] = wPack ∧ L.length = 2 ∧ b.packs.length < 32
        · rw [if_pos c1] at hr
          obtain ⟨d1, d2, d3⟩ := c1
          have d1 : L.getD 0 [] = [112, 97, 99, 107] := d1
          repeat' (first | exact True.intro | (exfalso; contradiction) | (exfalso; omega) | refine cl (rdPack_ok rest2 (L.getD 1 []) (by omega) (by omega)) (gb ?_) | refine br (fun h => ?_) (fun h => ?_) | refine gb ?_)
          have hpl := rdPack_len rest2 (L.getD 1 [])
          refine .inr ?_
          refine ⟨(k', (rdPack rest2 (L.getD 1 [])).2.1, (rdPack rest2 (L.getD 1 [])).2.2, ⟨b.packs ++ [(rdPack rest2 (L.getD 1 [])).1], b.dirs⟩), fun i => if i = 201 then 64 else i, ⟨hr, fun _ => by dsimp only; omega, by dsimp only; omega, by simp; omega, hd⟩, (by dsimp only; omega), fits_of (gb ?_) (gb ?_) (gb ?_) (gb ?_) (gb ?_)⟩
          · first | exact True.intro | exact ⟨rfl, rfl⟩ | exact ⟨rfl, rfl, rfl⟩ | rfl | exact rowc (List.map_id _) | trivial
          · first | exact True.intro | exact ⟨rfl, rfl⟩ | exact ⟨rfl, rfl, rfl⟩ | rfl | exact rowc (List.map_id _) | trivial
          · first | exact True.intro | exact ⟨rfl, rfl⟩ | exact ⟨rfl, rfl, rfl⟩ | rfl | exact rowc (List.map_id _) | trivial
          · (first | trivial | exact ⟨rfl, rfl, rfl⟩ | simp)
          · first | exact True.intro | exact ⟨rfl, rfl⟩ | exact ⟨rfl, rfl, rfl⟩ | rfl | exact rowc (List.map_id _) | trivial
        · rw [if_neg c1] at hr
          by_cases c2 : L.getD 0 [] = wDir ∧ L.length = 4 ∧ b.dirs.length < 2048
          · rw [if_pos c2] at hr
            obtain ⟨d1, d2, d3⟩ := c2
            have d1 : L.getD 0 [] = [100, 105, 114] := d1
            repeat' (first | exact True.intro | (exfalso; contradiction) | (exfalso; omega) | ((exfalso; exact c1 ⟨by assumption, by omega, by omega⟩)) | ((exfalso; exact absurd (d1.symm.trans (by assumption : L.getD 0 [] = [112, 97, 99, 107])) (by decide))) | refine cl (atoi_ok (L.getD 2 []) (by omega)) (gb ?_) | refine br (fun h => ?_) (fun h => ?_) | refine gb ?_)
            refine .inr ?_
            refine ⟨(k', rest2, true, ⟨b.packs, b.dirs ++ [⟨L.getD 3 [], atoV (L.getD 2 []), decide (L.getD 1 [] = [49])⟩]⟩), fun i => if i = 202 then 101 else i, ⟨by dsimp only; rw [if_pos rfl]; exact hr, fun _ => by dsimp only; omega, by dsimp only; omega, hp, by simp; omega⟩, (by dsimp only; omega), fits_of (gb ?_) (gb ?_) (gb ?_) (gb ?_) (gb ?_)⟩
            · first | exact True.intro | exact ⟨rfl, rfl⟩ | exact ⟨rfl, rfl, rfl⟩ | rfl | exact rowc (List.map_id _) | trivial
            · first | exact True.intro | exact ⟨rfl, rfl⟩ | exact ⟨rfl, rfl, rfl⟩ | rfl | exact rowc (List.map_id _) | trivial
            · first | exact True.intro | exact ⟨rfl, rfl⟩ | exact ⟨rfl, rfl, rfl⟩ | rfl | exact rowc (List.map_id _) | trivial
            · (first | trivial | exact ⟨rfl, rfl, rfl⟩ | simp)
            · first | exact True.intro | exact ⟨rfl, rfl⟩ | exact ⟨rfl, rfl, rfl⟩ | rfl | exact rowc (List.map_id _) | trivial
          · rw [if_neg c2] at hr
            repeat' (first | exact True.intro | (exfalso; contradiction) | (exfalso; omega) | ((exfalso; exact c1 ⟨by assumption, by omega, by omega⟩)) | ((exfalso; exact c2 ⟨by assumption, by omega, by omega⟩)) | ((rw [hr]; exact ⟨dB_le, rfl⟩)) | refine br (fun h => ?_) (fun h => ?_) | refine gb ?_)
    · have c : rest = wEnd := Decidable.not_not.1 c
      rw [if_pos c] at hr
      try refine gb ?_
      rw [hr]
      exact ⟨le_refl _, rfl⟩
theorem ManOk.fb {m : Man} (h : ManOk m) : m.Fit ∧ m.Big := by
  have h1 := name_len h.n
  have h2 := ver_len h.v
  have h3 := h.nl
  have h4 := h.cl
  have h5 := h.el
  refine ⟨⟨by omega, by omega, by omega, by omega, by omega, fun r hr => ?_, fun r hr => ?_, fun x hx => ?_⟩, ⟨by omega, by omega, by omega⟩⟩
  · have := rule_len (h.ns r hr); omega
  · have := rule_len (h.cs r hr); omega
  · have q := h.ents x hx
    have := parts_len q.p
    have := q.sums
    have := q.tars
    omega
theorem dM_fb : dM.Fit ∧ dM.Big := ⟨⟨by decide, by decide, by decide, by decide, by decide, by simp [dM], by simp [dM], by simp [dM]⟩, ⟨by decide, by decide, by decide⟩⟩
theorem parseM_fb (s : List UInt8) : (parseM s).1.Fit ∧ (parseM s).1.Big := by
  unfold parseM
  split
  · exact dM_fb
  · split
    · exact dM_fb
    · split
      · exact dM_fb
      · split
        · exact dM_fb
        · rename_i h
          exact (ManOk.of (Decidable.not_not.1 h)).fb
/-- What is read of a text is small. -/
structure Bas.Sm (b : Bas) : Prop where
  p : b.packs.length ≤ 32
  d : b.dirs.length ≤ 2048
  m : ∀ m ∈ b.packs, m.Fit ∧ m.Big
  s : ∀ x ∈ b.dirs, x.path.length ≤ 4000000
theorem dB_sm : dB.Sm := ⟨by decide, by decide, by simp [dB], by simp [dB]⟩
theorem readF_sm : ∀ (k : Nat) (s : List UInt8) (b : Bas), s.length ≤ 4000000 → b.Sm → (readF k s b).1.Sm
  | 0, s, b, _, hb => hb
  | k + 1, s, b, hs, hb => by
    have h1 := cut_le s 10
    have h2 := cut_len (s := s) (c := 10)
    rw [readF]
    split
    · exact hb
    · split
      · exact dB_sm
      · rename_i hc
        have h2 := h2 (by simpa using hc)
        split
        · rename_i h3
          have hp : (rdPack (Lib.cut s [10]).2.1 ((sp 32 (Lib.cut s [10]).1).getD 1 [])).1.Fit ∧ (rdPack (Lib.cut s [10]).2.1 ((sp 32 (Lib.cut s [10]).1).getD 1 [])).1.Big := by
            unfold rdPack
            split
            · exact dM_fb
            · exact parseM_fb _
          have hl := rdPack_len (Lib.cut s [10]).2.1 ((sp 32 (Lib.cut s [10]).1).getD 1 [])
          have hn : (⟨b.packs ++ [(rdPack (Lib.cut s [10]).2.1 ((sp 32 (Lib.cut s [10]).1).getD 1 [])).1], b.dirs⟩ : Bas).Sm := ⟨by simp; omega, hb.d, fun m hm => by
            rcases List.mem_append.1 hm with hm | hm
            · exact hb.m m hm
            · rw [List.mem_singleton] at hm; subst hm; exact hp, hb.s⟩
          split
          · exact readF_sm k _ _ (by omega) hn
          · exact hn
        · split
          · rename_i h3
            have hg := getD_len (sp_le 32 (Lib.cut s [10]).1) 3
            exact readF_sm k _ _ (by omega) ⟨hb.p, by simp; omega, hb.m, fun d hd => by
              rcases List.mem_append.1 hd with hd | hd
              · exact hb.s d hd
              · rw [List.mem_singleton] at hd; subst hd; dsimp only; omega⟩
          · exact dB_sm
theorem readB_sm {s : List UInt8} (hs : s.length ≤ 4000000) : (readB s).1.Sm := by
  unfold readB
  split
  · exact dB_sm
  · exact readF_sm _ _ _ (by rw [List.length_drop]; omega) dB_sm
theorem Bas.Sm.big {b : Bas} (h : b.Sm) : b.Big := by
  obtain ⟨h1, h2, h3, h4⟩ := h
  exact ⟨by omega, by omega, h3, fun x hx => by have := h4 x hx; omega⟩
theorem oparse_ok (s : List UInt8) (hs : s.length ≤ 4000000) : Spec Tryz.prog LL 22 [.s s] (.tp [eBas (parseB s).1, .n .i64 (parseB s).2]) := by
  refine spec_of (C := ⟨Tryz.prog, LL, EE, []⟩) (rl := [eBas (parseB s).1, .n .i64 (parseB s).2]) (rs := [.cell 2 25, .tmp 3]) CCx LLs Tryz.func22 rfl (by kernel_rfl) rfl (by kernel_rfl) (Nat.le_of_ble_eq_true rfl) (fun i => rfl) (fun i => by first | rfl | exact (Bool.or_false _).trans (eSd_men _ _)) rfl (by decide) ?_
  refine gb ?_
  refine cl (oread_ok s hs) ?_
  refine gb ?_
  have hbig := (readB_sm hs).big
  have no : ¬ ((readB s).2 = true ∧ BasOk (readB s).1 ∧ textB (readB s).1 = s) → parseB s = (dB, 2) := fun h => by rw [parseB, if_neg h]
  have yes : (readB s).2 = true ∧ BasOk (readB s).1 ∧ textB (readB s).1 = s → parseB s = ((readB s).1, 0) := fun h => by rw [parseB, if_pos h]
  generalize readB s = q at *
  obtain ⟨b, ok⟩ := q
  dsimp only at *
  refine br (fun a => ?_) (fun a => ?_)
  · try refine gb ?_
    rw [no (by simp_all)]
    exact ⟨dB_le, rfl⟩
  · try refine gb ?_
    refine cl (oprint_ok b hbig) ?_
    refine gb ?_
    unfold printB
    by_cases hb : BasOk b
    · rw [if_pos hb]
      try refine gb ?_
      refine br (fun c => ?_) (fun c => ?_)
      · try refine gb ?_
        rw [no (by simp_all)]
        exact ⟨dB_le, rfl⟩
      · try refine gb ?_
        rw [yes (by simp_all)]
        exact ⟨le_refl _, rfl⟩
    · rw [if_neg hb]
      try refine gb ?_
      rw [no (by simp_all)]
      exact ⟨dB_le, rfl⟩
end Go.Proofs.YtagjeabdcjcchaaGreatDoor.Ev
