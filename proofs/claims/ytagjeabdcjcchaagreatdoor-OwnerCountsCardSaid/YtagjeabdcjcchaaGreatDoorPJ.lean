/- Databases: the laws of what answers alike, of what is counted. -/
import Derived.Test.YtagjeabdcjcchaaGreatDoorPH
import Derived.Test.YtagjeabdcjcchaaGreatDoorPI
import Derived.Test.YtagjeabdcjcchaaGreatDoorPC
set_option linter.all false
namespace Go.Proofs.YtagjeabdcjcchaaGreatDoor.Ev
open Go.RowKit
open Go.Proofs.YtagjeabdcjcchaaGreatDoor.Mem
set_option linter.unusedVariables false
set_option linter.unusedSimpArgs false
set_option maxRecDepth 100000
set_option maxHeartbeats 4000000 in
theorem lawChecks_ok (b : Bas) (s : List UInt8) (hb : b.Big) : Spec Tryz.prog LL 3 [eBas b, .s s] (.b true) := by
  refine spec_of (C := ⟨Tryz.prog, LL, EE, []⟩) (rl := [.b true]) (rs := [.tmp 4]) CCx LLs Tryz.func3 rfl (by kernel_rfl) rfl (by kernel_rfl) (Nat.le_of_ble_eq_true rfl) (fun i => rfl) (fun i => by first | rfl | exact (Bool.or_false _).trans (eSd_men _ _)) rfl (by decide) ?_
  refine gb ?_
  have hbp := hb.p
  refine cl (great_ok b hb) ?_
  refine gb ?_
  cases hg : greatB b with
  | true =>
    try refine gb ?_
    refine cl (awake_ok) ?_
    refine gb ?_
    trivial
  | false =>
    try refine gb ?_
    refine cl (oprint_ok b hb) ?_
    refine gb ?_
    refine cl (orprint_ok b hb) ?_
    refine gb ?_
    refine cl (owner_ok b s hb) ?_
    refine gb ?_
    refine cl (orowner_ok b s hb) ?_
    refine gb ?_
    refine lp_hd [1, 2, 5, 6, 7, 8, 9, 10, 11, 12] [2] (fun i : Nat => [(13, .n .i64 (i : Int))]) (fun i : Nat => []) (fun i : Nat => i ≤ b.packs.length) (fun i : Nat => b.packs.length - i) (0) id (id) (Nat.zero_le _) (fits_of (gb ?_) (gb ?_) (gb ?_) (gb ?_) (gb ?_)) ?_
    · first | exact True.intro | exact ⟨rfl, rfl⟩ | exact ⟨rfl, rfl, rfl⟩ | rfl | exact rowc (List.map_id _) | trivial
    · first | exact True.intro | exact ⟨rfl, rfl⟩ | exact ⟨rfl, rfl, rfl⟩ | rfl | exact rowc (List.map_id _) | trivial
    · first | exact True.intro | exact ⟨rfl, rfl⟩ | exact ⟨rfl, rfl, rfl⟩ | rfl | exact rowc (List.map_id _) | trivial
    · first | exact True.intro | exact ⟨rfl, rfl⟩ | exact ⟨rfl, rfl, rfl⟩ | rfl | exact rowc (List.map_id _) | trivial
    · first | exact True.intro | exact ⟨rfl, rfl⟩ | exact ⟨rfl, rfl, rfl⟩ | rfl | exact rowc (List.map_id _) | trivial
    rintro i hi
    try refine gb ?_
    refine br (fun e => ?_) (fun e => ?_)
    · have hm := hb.m _ (getD_mem (x := dMn) (show i < b.packs.length by omega))
      try refine gb ?_
      refine cl (has_ok (b.packs.getD i dMn) s hm.1.el) ?_
      refine gb ?_
      refine cl (orhas_ok (b.packs.getD i dMn) s hm.1.el) ?_
      refine gb ?_
      refine ⟨true, eqaE _ _ _ _ _, gb ?_⟩
      refine ⟨i + 1, (by omega), (by omega), fits_of (gb ?_) (gb ?_) (gb ?_) (gb ?_) (gb ?_)⟩
      · first | exact True.intro | exact ⟨rfl, rfl⟩ | exact ⟨rfl, rfl, rfl⟩ | rfl | exact rowc (List.map_id _) | trivial
      · first | exact True.intro | exact ⟨rfl, rfl⟩ | exact ⟨rfl, rfl, rfl⟩ | rfl | exact rowc (List.map_id _) | trivial
      · first | exact True.intro | exact ⟨rfl, rfl⟩ | exact ⟨rfl, rfl, rfl⟩ | rfl | exact rowc (List.map_id _) | trivial
      · first | exact True.intro | exact ⟨rfl, rfl⟩ | exact ⟨rfl, rfl, rfl⟩ | rfl | exact rowc (List.map_id _) | trivial
      · first | exact True.intro | exact ⟨rfl, rfl⟩ | exact ⟨rfl, rfl, rfl⟩ | rfl | exact rowc (List.map_id _) | trivial
    · try refine gb ?_
      refine cl (find_ok b s hb) ?_
      refine gb ?_
      refine cl (orfind_ok b s hb) ?_
      refine gb ?_
      have hf := findM_fit hb.m s
      generalize findM b.packs s = q at hf ⊢
      refine cd (awake_ok) ?_
      refine gb ?_
      refine cd (ocheck_ok b hb) ?_
      refine gb ?_
      refine cd (orcheck_ok b hb) ?_
      refine gb ?_
      repeat' (first | exact True.intro | (exfalso; omega) | ((exact beq_self_eq_true _)) | ((exfalso; exact absurd (beq_self_eq_true _) (by assumption))) | refine cd (same_ok _ hf.1) (gb ?_) | refine br (fun h => ?_) (fun h => ?_) | refine gb ?_)
def isD2 (x : Ent) : Nat := if x.kind = 2 then 1 else 0
theorem dirs2_cons (x : Ent) (l : List Ent) : dirs2 (x :: l) = isD2 x + dirs2 l := by
  unfold dirs2 isD2
  simp only [List.filter_cons]
  split <;> rename_i h
  · rw [if_pos (by simpa using h), List.length_cons]; omega
  · rw [if_neg (by simpa using h)]; omega
theorem dirs2_app (a l : List Ent) : dirs2 (a ++ l) = dirs2 a + dirs2 l := by
  unfold dirs2
  simp
theorem dirs2_le (l : List Ent) : dirs2 l ≤ l.length := List.length_filter_le _ _
open Classical in
set_option maxHeartbeats 4000000 in
theorem lawCounts_ok (b : Bas) (hb : b.Big) : Spec Tryz.prog LL 8 [eBas b] (.b true) := by
  refine spec_of (C := ⟨Tryz.prog, LL, EE, []⟩) (rl := [.b true]) (rs := [.tmp 2]) CCx LLs Tryz.func8 rfl (by kernel_rfl) rfl (by kernel_rfl) (Nat.le_of_ble_eq_true rfl) (fun i => rfl) (fun i => by first | rfl | exact (Bool.or_false _).trans (eSd_men _ _)) rfl (by decide) ?_
  refine gb ?_
  have hbp := hb.p
  have hbd := hb.d
  refine cl (great_ok b hb) ?_
  refine gb ?_
  cases hg : greatB b with
  | true =>
    try refine gb ?_
    refine cl (awake_ok) ?_
    refine gb ?_
    trivial
  | false =>
    try refine gb ?_
    refine cl (ocheck_ok b hb) ?_
    refine gb ?_
    refine br (fun hok => ?_) (fun hok => ?_)
    · try refine gb ?_
      refine cl (awake_ok) ?_
      refine gb ?_
      trivial
    · have hok := Decidable.not_not.1 hok
      try refine gb ?_
      have hs := refs_sum hok
      have hrf := dirs_good hok
      have hel := ents_len (fun m hm => ManOk.of (hok.chk m hm))
      have hlen := hok.len
      refine lp_hd [1, 4] [1] (fun x : Nat × Int => [(3, .n .i64 x.2), (5, .n .i64 (x.1 : Int))]) (fun x : Nat × Int => []) (fun x : Nat × Int => x.1 ≤ b.dirs.length ∧ 0 ≤ x.2 ∧ x.2 ≤ x.1 * 1000000 ∧ sumR b.dirs = x.2 + sumR (b.dirs.drop x.1)) (fun x : Nat × Int => b.dirs.length - x.1) ((0, 0)) id (id) ⟨Nat.zero_le _, Int.le_refl _, by dsimp only; omega, by dsimp only; simp⟩ (fits_of (gb ?_) (gb ?_) (gb ?_) (gb ?_) (gb ?_)) ?_
      · first | exact True.intro | exact ⟨rfl, rfl⟩ | exact ⟨rfl, rfl, rfl⟩ | rfl | exact rowc (List.map_id _) | trivial
      · first | exact True.intro | exact ⟨rfl, rfl⟩ | exact ⟨rfl, rfl, rfl⟩ | rfl | exact rowc (List.map_id _) | trivial
      · first | exact True.intro | exact ⟨rfl, rfl⟩ | exact ⟨rfl, rfl, rfl⟩ | rfl | exact rowc (List.map_id _) | trivial
      · first | exact True.intro | exact ⟨rfl, rfl⟩ | exact ⟨rfl, rfl, rfl⟩ | rfl | exact rowc (List.map_id _) | trivial
      · first | exact True.intro | exact ⟨rfl, rfl⟩ | exact ⟨rfl, rfl, rfl⟩ | rfl | exact rowc (List.map_id _) | trivial
      rintro ⟨i, n⟩ ⟨hi, h0, h1, hr⟩
      dsimp only at hi h0 h1 hr ⊢
      try refine gb ?_
      refine br (fun e => ?_) (fun e => ?_)
      · rw [drop_at b.dirs i dS (by omega)] at hr
        have hd := (hrf.1 _ (getD_mem (x := dS) (show i < b.dirs.length by omega))).2
        rw [show ∀ (d : Shr) (l : List Shr), sumR (d :: l) = d.refs + sumR l from fun d l => rfl] at hr
        try refine gb ?_
        refine ⟨(i + 1, n + (b.dirs.getD i dS).refs), ⟨by dsimp only; omega, by dsimp only; omega, by dsimp only; omega, by dsimp only; omega⟩, (by dsimp only; omega), fits_of (gb ?_) (gb ?_) (gb ?_) (gb ?_) (gb ?_)⟩
        · first | exact True.intro | exact ⟨rfl, rfl⟩ | exact ⟨rfl, rfl, rfl⟩ | rfl | exact rowc (List.map_id _) | trivial
        · first | exact True.intro | exact ⟨rfl, rfl⟩ | exact ⟨rfl, rfl, rfl⟩ | rfl | exact rowc (List.map_id _) | trivial
        · first | exact True.intro | exact ⟨rfl, rfl⟩ | exact ⟨rfl, rfl, rfl⟩ | rfl | exact rowc (List.map_id _) | trivial
        · first | exact True.intro | exact ⟨rfl, rfl⟩ | exact ⟨rfl, rfl, rfl⟩ | rfl | exact rowc (List.map_id _) | trivial
        · first | exact True.intro | exact ⟨rfl, rfl⟩ | exact ⟨rfl, rfl, rfl⟩ | rfl | exact rowc (List.map_id _) | trivial
      · rw [List.drop_eq_nil_of_le (by omega), show sumR [] = 0 from rfl, Int.add_zero] at hr
        rw [← hr, hs]
        clear hr
        generalize hT : dirs2 (entsOf b.packs) = T
        try refine gb ?_
        refine lp_hd [1, 3] [1] (fun x : Nat × Nat => [(4, .n .i64 (x.2 : Int)), (6, .n .i64 (x.1 : Int))]) (fun x : Nat × Nat => []) (fun x : Nat × Nat => x.1 ≤ b.packs.length ∧ x.2 ≤ x.1 * 64 ∧ T = x.2 + dirs2 (entsOf (b.packs.drop x.1))) (fun x : Nat × Nat => b.packs.length - x.1) ((0, 0)) id (id) ⟨Nat.zero_le _, Nat.le_refl _, by dsimp only; rw [← hT]; simp⟩ (fits_of (gb ?_) (gb ?_) (gb ?_) (gb ?_) (gb ?_)) ?_
        · first | exact True.intro | exact ⟨rfl, rfl⟩ | exact ⟨rfl, rfl, rfl⟩ | rfl | exact rowc (List.map_id _) | trivial
        · first | exact True.intro | exact ⟨rfl, rfl⟩ | exact ⟨rfl, rfl, rfl⟩ | rfl | exact rowc (List.map_id _) | trivial
        · first | exact True.intro | exact ⟨rfl, rfl⟩ | exact ⟨rfl, rfl, rfl⟩ | rfl | exact rowc (List.map_id _) | trivial
        · first | exact True.intro | exact ⟨rfl, rfl⟩ | exact ⟨rfl, rfl, rfl⟩ | rfl | exact rowc (List.map_id _) | trivial
        · first | exact True.intro | exact ⟨rfl, rfl⟩ | exact ⟨rfl, rfl, rfl⟩ | rfl | exact rowc (List.map_id _) | trivial
        rintro ⟨j, k⟩ ⟨hj, h2, hr⟩
        dsimp only at hj h2 hr ⊢
        try refine gb ?_
        refine br (fun e2 => ?_) (fun e2 => ?_)
        · have hmem := getD_mem (x := dMn) (show j < b.packs.length by omega)
          have hm := (ManOk.of (hok.chk _ hmem)).el
          have ho := fun x hx => own_ent hok hmem (x := x) hx
          rw [drop_at b.packs j dMn (by omega), show ∀ (m : Man) (l : List Man), entsOf (m :: l) = m.ents ++ entsOf l from fun m l => rfl, dirs2_app] at hr
          try refine gb ?_
          refine lp_hd [1, 3, 6] [1] (fun x : Nat × Nat => [(4, .n .i64 (x.2 : Int)), (7, .n .i64 (x.1 : Int))]) (fun x : Nat × Nat => []) (fun x : Nat × Nat => x.1 ≤ (b.packs.getD j dMn).ents.length ∧ x.2 ≤ k + x.1 ∧ k + dirs2 (b.packs.getD j dMn).ents = x.2 + dirs2 ((b.packs.getD j dMn).ents.drop x.1)) (fun x : Nat × Nat => (b.packs.getD j dMn).ents.length - x.1) ((0, k)) id (id) ⟨Nat.zero_le _, Nat.le_refl _, rfl⟩ (fits_of (gb ?_) (gb ?_) (gb ?_) (gb ?_) (gb ?_)) ?_
          · first | exact True.intro | exact ⟨rfl, rfl⟩ | exact ⟨rfl, rfl, rfl⟩ | rfl | exact rowc (List.map_id _) | trivial
          · first | exact True.intro | exact ⟨rfl, rfl⟩ | exact ⟨rfl, rfl, rfl⟩ | rfl | exact rowc (List.map_id _) | trivial
          · first | exact True.intro | exact ⟨rfl, rfl⟩ | exact ⟨rfl, rfl, rfl⟩ | rfl | exact rowc (List.map_id _) | trivial
          · first | exact True.intro | exact ⟨rfl, rfl⟩ | exact ⟨rfl, rfl, rfl⟩ | rfl | exact rowc (List.map_id _) | trivial
          · first | exact True.intro | exact ⟨rfl, rfl⟩ | exact ⟨rfl, rfl, rfl⟩ | rfl | exact rowc (List.map_id _) | trivial
          rintro ⟨a, q⟩ ⟨ha, h3, h4⟩
          dsimp only at ha h3 h4 ⊢
          try refine gb ?_
          refine br (fun e3 => ?_) (fun e3 => ?_)
          · have hx := ho _ (getD_mem (x := dE) (show a < (b.packs.getD j dMn).ents.length by omega))
            rw [drop_at (b.packs.getD j dMn).ents a dE (by omega), dirs2_cons] at h4
            unfold isD2 at h4
            try refine gb ?_
            refine cl (owner_ok b ((b.packs.getD j dMn).ents.getD a dE).path hb) ?_
            refine gb ?_
            rw [hx]
            by_cases hk : ((b.packs.getD j dMn).ents.getD a dE).kind = 2
            · rw [if_pos hk] at h4
              rw [if_pos hk, hk]
              try refine gb ?_
              refine ⟨(a + 1, q + 1), ⟨by dsimp only; omega, by dsimp only; omega, by dsimp only; omega⟩, (by dsimp only; omega), fits_of (gb ?_) (gb ?_) (gb ?_) (gb ?_) (gb ?_)⟩
              · first | exact True.intro | exact ⟨rfl, rfl⟩ | exact ⟨rfl, rfl, rfl⟩ | rfl | exact rowc (List.map_id _) | trivial
              · first | exact True.intro | exact ⟨rfl, rfl⟩ | exact ⟨rfl, rfl, rfl⟩ | rfl | exact rowc (List.map_id _) | trivial
              · first | exact True.intro | exact ⟨rfl, rfl⟩ | exact ⟨rfl, rfl, rfl⟩ | rfl | exact rowc (List.map_id _) | trivial
              · first | exact True.intro | exact ⟨rfl, rfl⟩ | exact ⟨rfl, rfl, rfl⟩ | rfl | exact rowc (List.map_id _) | trivial
              · first | exact True.intro | exact ⟨rfl, rfl⟩ | exact ⟨rfl, rfl, rfl⟩ | rfl | exact rowc (List.map_id _) | trivial
            · rw [if_neg hk] at h4
              rw [if_neg hk]
              try refine gb ?_
              refine br (fun c5 => ?_) (fun c5 => ?_)
              · exact absurd c5 hk
              · try refine gb ?_
                repeat' (first | exact True.intro | (exfalso; omega) | (exfalso; simp_all; done) | refine br (fun h => ?_) (fun h => ?_) | refine gb ?_)
                refine ⟨(a + 1, q), ⟨by dsimp only; omega, by dsimp only; omega, by dsimp only; omega⟩, (by dsimp only; omega), fits_of (gb ?_) (gb ?_) (gb ?_) (gb ?_) (gb ?_)⟩
                · first | exact True.intro | exact ⟨rfl, rfl⟩ | exact ⟨rfl, rfl, rfl⟩ | rfl | exact rowc (List.map_id _) | trivial
                · first | exact True.intro | exact ⟨rfl, rfl⟩ | exact ⟨rfl, rfl, rfl⟩ | rfl | exact rowc (List.map_id _) | trivial
                · first | exact True.intro | exact ⟨rfl, rfl⟩ | exact ⟨rfl, rfl, rfl⟩ | rfl | exact rowc (List.map_id _) | trivial
                · first | exact True.intro | exact ⟨rfl, rfl⟩ | exact ⟨rfl, rfl, rfl⟩ | rfl | exact rowc (List.map_id _) | trivial
                · first | exact True.intro | exact ⟨rfl, rfl⟩ | exact ⟨rfl, rfl, rfl⟩ | rfl | exact rowc (List.map_id _) | trivial
          · try refine gb ?_
            rw [List.drop_eq_nil_of_le (by omega), show dirs2 [] = 0 from rfl] at h4
            refine ⟨(j + 1, q), ⟨by dsimp only; omega, by dsimp only; omega, by dsimp only; omega⟩, (by dsimp only; omega), fits_of (gb ?_) (gb ?_) (gb ?_) (gb ?_) (gb ?_)⟩
            · first | exact True.intro | exact ⟨rfl, rfl⟩ | exact ⟨rfl, rfl, rfl⟩ | rfl | exact rowc (List.map_id _) | trivial
            · first | exact True.intro | exact ⟨rfl, rfl⟩ | exact ⟨rfl, rfl, rfl⟩ | rfl | exact rowc (List.map_id _) | trivial
            · first | exact True.intro | exact ⟨rfl, rfl⟩ | exact ⟨rfl, rfl, rfl⟩ | rfl | exact rowc (List.map_id _) | trivial
            · first | exact True.intro | exact ⟨rfl, rfl⟩ | exact ⟨rfl, rfl, rfl⟩ | rfl | exact rowc (List.map_id _) | trivial
            · first | exact True.intro | exact ⟨rfl, rfl⟩ | exact ⟨rfl, rfl, rfl⟩ | rfl | exact rowc (List.map_id _) | trivial
        · rw [List.drop_eq_nil_of_le (by omega), show dirs2 (entsOf []) = 0 from rfl] at hr
          try refine gb ?_
          refine cl (awake_ok) ?_
          refine gb ?_
          trivial
end Go.Proofs.YtagjeabdcjcchaaGreatDoor.Ev

