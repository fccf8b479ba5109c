/- Plans: no step touches what isn't the package's. -/
import Derived.Test.YtjbnmeofjiokeaaGreatDoorQR
set_option linter.all false
namespace Go.Proofs.YtjbnmeofjiokeaaGreatDoor.Ev
open Go.RowKit
open Go.Proofs.YtjbnmeofjiokeaaGreatDoor.Mem
set_option linter.unusedVariables false
set_option linter.unusedSimpArgs false
set_option maxRecDepth 100000
theorem emptM_len (c : Bas) : ∀ (D : List Shr) (s : List Stp), (emptM c D s).length ≤ s.length + D.length
  | [], s => Nat.le_add_right _ _
  | d :: r, s => by
    unfold emptM
    split
    · have := emptM_len c r (s ++ [rmS d.path])
      simp at this ⊢
      omega
    · have := emptM_len c r s
      simp
      omega
theorem find_len {b : Bas} (h : BasOk b) {n : List UInt8} (hn : (findM b.packs n).2 = true) : (findM b.packs n).1.ents.length ≤ 64 := (ManOk.of (h.chk _ (find_name hn).1)).el
theorem install_len {b : Bas} {l : List Stt} {m : Man} {ms : List Mbr} (he : m.ents.length ≤ 500) : (installM b l m ms).1.length ≤ 10000 := by
  rcases install_cases b l m ms with ⟨e, _, h⟩ | ⟨_, _, _, _, h⟩
  · rw [h]; exact Nat.zero_le _
  · rw [h]
    have := (pcomesM_len ⟨b, l, dMn, m⟩ ms [] []).1
    dsimp only [List.length_nil] at this ⊢
    omega
theorem remove_len {b : Bas} {l : List Stt} {n : List UInt8} : (removeM b l n).1.length ≤ 10000 := by
  rcases remove_cases b l n with ⟨e, _, h⟩ | ⟨hb, hf, _, h⟩
  · rw [h]; exact Nat.zero_le _
  · rw [h]
    have h1 := find_len hb hf
    have h2 := (dirs_good hb).2
    have h3 := pgoesL_len ⟨b, l, (findM b.packs n).1, dMn⟩ (findM b.packs n).1.ents []
    have h4 := emptM_len (withoutB b n) b.dirs.reverse (pgoesL ⟨b, l, (findM b.packs n).1, dMn⟩ (findM b.packs n).1.ents []).2
    rw [List.length_reverse] at h4
    dsimp only [List.length_nil] at h3 ⊢
    omega
theorem upgrade_len {b : Bas} {l : List Stt} {m : Man} {ms : List Mbr} (he : m.ents.length ≤ 500) : (upgradeM b l m ms).1.length ≤ 10000 := by
  rcases upgrade_cases b l m ms with ⟨e, _, h⟩ | ⟨hb, hf, f, rfl, g, rfl, _, c, rfl, _, mk, h⟩
  · rw [h]; exact Nat.zero_le _
  · rw [h]
    have h1 := find_len hb hf
    have h2 := (dirs_good hb).2
    have h3 := pgoesL_len ⟨b, l, (findM b.packs m.name).1, m⟩ (findM b.packs m.name).1.ents []
    have h5 := (pcomesM_len ⟨b, l, (findM b.packs m.name).1, m⟩ ms (pgoesL ⟨b, l, (findM b.packs m.name).1, m⟩ (findM b.packs m.name).1.ents []).2 []).1
    have h4 := emptM_len (addB (withoutB b m.name) m mk) b.dirs.reverse (pcomesM ⟨b, l, (findM b.packs m.name).1, m⟩ ms (pgoesL ⟨b, l, (findM b.packs m.name).1, m⟩ (findM b.packs m.name).1.ents []).2 []).2.1
    rw [List.length_reverse] at h4
    dsimp only [List.length_nil] at h3 h5 ⊢
    omega
set_option maxHeartbeats 8000000 in
theorem only_ok (c : Cse) (hc : c.Big) : Spec Tryz.prog LL 3 [eCse c] (.b true) := by
  refine spec_of (C := ⟨Tryz.prog, LL, EE, [14]⟩) (rl := [.b true]) (rs := [.tmp 2]) CCx LLs Tryz.func3 rfl (by kernel_rfl) rfl (by kernel_rfl) (Nat.le_of_ble_eq_true rfl) (fun i => rfl) (fun i => by first | rfl | exact (Bool.or_false _).trans (eSd_men _ _)) rfl (by decide) ?_
  refine gl ?_
  have hb := hc.b
  have hl := hc.t
  have hm := hc.m
  have hel := hm.1.el
  have hk := hc.k
  refine cl (great_ok c.base c.tree c.m c.members hb hl (by omega) hk) ?_
  refine gl ?_
  have hg := @great_no c.base c.tree c.m c.members
  generalize great2 c.base c.tree c.m c.members = g at hg ⊢
  cases g with
  | true =>
    try refine gl ?_
    refine cl (awake_ok) ?_
    refine gl ?_
    trivial
  | false =>
    have he := hg rfl
    try refine gl ?_
    refine cl (orfind_ok c.base c.m.name hb) ?_
    refine gl ?_
    have hfo := findM_fit hb.m c.m.name
    obtain ⟨f, hf⟩ : ∃ f, f = findM c.base.packs c.m.name := ⟨_, rfl⟩
    rw [← hf] at hfo ⊢
    try refine gl ?_
    refine lp_hd [1, 3] [1, 3] (fun i : Nat => [(5, .n .i64 (i : Int))]) (fun i : Nat => []) (fun i : Nat => i ≤ 3) (fun i : Nat => 3 - i) (0) id (id) (Nat.zero_le _) (fits_of (gl ?_) (gl ?_) (gl ?_) (gl ?_) (gl ?_)) ?_
    · first | exact True.intro | exact ⟨rfl, rfl⟩ | exact ⟨rfl, rfl, rfl⟩ | rfl | exact rowc (List.map_id _) | trivial
    · first | exact True.intro | exact ⟨rfl, rfl⟩ | exact ⟨rfl, rfl, rfl⟩ | rfl | exact rowc (List.map_id _) | trivial
    · first | exact True.intro | exact ⟨rfl, rfl⟩ | exact ⟨rfl, rfl, rfl⟩ | rfl | exact rowc (List.map_id _) | trivial
    · first | exact True.intro | exact ⟨rfl, rfl⟩ | exact ⟨rfl, rfl, rfl⟩ | rfl | exact rowc (List.map_id _) | trivial
    · first | exact True.intro | exact ⟨rfl, rfl⟩ | exact ⟨rfl, rfl, rfl⟩ | rfl | exact rowc (List.map_id _) | trivial
    rintro i hi
    try refine gl ?_
    refine br (fun e => ?_) (fun e => ?_)
    · try refine gl ?_
      refine ct_hd [1, 3, 5] [1, 3] (fun s : List Stp => [(6, .sl 8 Stp dP s eStp)]) (fun s : List Stp => []) (fun s : List Stp => s.length ≤ 10000 ∧ ∀ x ∈ s, mayS c.base c.m x) (gl ?_) ?_
      · try refine gl ?_
        refine br (fun k0 => ?_) (fun k0 => ?_)
        · try refine gl ?_
          refine cl (install_ok c.base c.tree c.m c.members hb hl hc.d hm (by omega) hk) ?_
          refine gl ?_
          refine wk_fit ((installM c.base c.tree c.m c.members).1) (id) (⟨install_len he, install_only _ _ _ _⟩) (fits_of (gl ?_) (gl ?_) (gl ?_) (gl ?_) (gl ?_))
          · first | exact True.intro | exact ⟨rfl, rfl⟩ | exact ⟨rfl, rfl, rfl⟩ | rfl | exact rowc (List.map_id _) | trivial
          · first | exact True.intro | exact ⟨rfl, rfl⟩ | exact ⟨rfl, rfl, rfl⟩ | rfl | exact rowc (List.map_id _) | trivial
          · first | exact True.intro | exact ⟨rfl, rfl⟩ | exact ⟨rfl, rfl, rfl⟩ | rfl | exact rowc (List.map_id _) | trivial
          · first | exact True.intro | exact ⟨rfl, rfl⟩ | exact ⟨rfl, rfl, rfl⟩ | rfl | exact rowc (List.map_id _) | trivial
          · first | exact True.intro | exact ⟨rfl, rfl⟩ | exact ⟨rfl, rfl, rfl⟩ | rfl | exact rowc (List.map_id _) | trivial
        · try refine gl ?_
          refine br (fun k1 => ?_) (fun k1 => ?_)
          · try refine gl ?_
            refine cl (upgrade_ok c.base c.tree c.m c.members hb hl hc.d hm (by omega) hk) ?_
            refine gl ?_
            refine wk_fit ((upgradeM c.base c.tree c.m c.members).1) (id) (⟨upgrade_len he, upgrade_only _ _ _ _⟩) (fits_of (gl ?_) (gl ?_) (gl ?_) (gl ?_) (gl ?_))
            · first | exact True.intro | exact ⟨rfl, rfl⟩ | exact ⟨rfl, rfl, rfl⟩ | rfl | exact rowc (List.map_id _) | trivial
            · first | exact True.intro | exact ⟨rfl, rfl⟩ | exact ⟨rfl, rfl, rfl⟩ | rfl | exact rowc (List.map_id _) | trivial
            · first | exact True.intro | exact ⟨rfl, rfl⟩ | exact ⟨rfl, rfl, rfl⟩ | rfl | exact rowc (List.map_id _) | trivial
            · first | exact True.intro | exact ⟨rfl, rfl⟩ | exact ⟨rfl, rfl, rfl⟩ | rfl | exact rowc (List.map_id _) | trivial
            · first | exact True.intro | exact ⟨rfl, rfl⟩ | exact ⟨rfl, rfl, rfl⟩ | rfl | exact rowc (List.map_id _) | trivial
          · try refine gl ?_
            refine cl (remove_ok c.base c.tree c.m.name hb hl hc.d) ?_
            refine gl ?_
            refine wk_fit ((removeM c.base c.tree c.m.name).1) (id) (⟨remove_len, remove_only _ _ _⟩) (fits_of (gl ?_) (gl ?_) (gl ?_) (gl ?_) (gl ?_))
            · first | exact True.intro | exact ⟨rfl, rfl⟩ | exact ⟨rfl, rfl, rfl⟩ | rfl | exact rowc (List.map_id _) | trivial
            · first | exact True.intro | exact ⟨rfl, rfl⟩ | exact ⟨rfl, rfl, rfl⟩ | rfl | exact rowc (List.map_id _) | trivial
            · first | exact True.intro | exact ⟨rfl, rfl⟩ | exact ⟨rfl, rfl, rfl⟩ | rfl | exact rowc (List.map_id _) | trivial
            · first | exact True.intro | exact ⟨rfl, rfl⟩ | exact ⟨rfl, rfl, rfl⟩ | rfl | exact rowc (List.map_id _) | trivial
            · first | exact True.intro | exact ⟨rfl, rfl⟩ | exact ⟨rfl, rfl, rfl⟩ | rfl | exact rowc (List.map_id _) | trivial
      · rintro s ⟨hsl, hs⟩
        try refine gl ?_
        refine lp_hd [1, 3, 5, 6] [1, 3] (fun j : Nat => [(7, .n .i64 (j : Int))]) (fun j : Nat => []) (fun j : Nat => j ≤ s.length) (fun j : Nat => s.length - j) (0) id (id) (Nat.zero_le _) (fits_of (gl ?_) (gl ?_) (gl ?_) (gl ?_) (gl ?_)) ?_
        · first | exact True.intro | exact ⟨rfl, rfl⟩ | exact ⟨rfl, rfl, rfl⟩ | rfl | exact rowc (List.map_id _) | trivial
        · first | exact True.intro | exact ⟨rfl, rfl⟩ | exact ⟨rfl, rfl, rfl⟩ | rfl | exact rowc (List.map_id _) | trivial
        · first | exact True.intro | exact ⟨rfl, rfl⟩ | exact ⟨rfl, rfl, rfl⟩ | rfl | exact rowc (List.map_id _) | trivial
        · first | exact True.intro | exact ⟨rfl, rfl⟩ | exact ⟨rfl, rfl, rfl⟩ | rfl | exact rowc (List.map_id _) | trivial
        · first | exact True.intro | exact ⟨rfl, rfl⟩ | exact ⟨rfl, rfl, rfl⟩ | rfl | exact rowc (List.map_id _) | trivial
        rintro j hj
        try refine gl ?_
        refine br (fun e2 => ?_) (fun e2 => ?_)
        · obtain ⟨m1, m2, m3⟩ := hs _ (getD_mem (x := dP) (show j < s.length by omega))
          rw [← hf] at m1 m3
          try refine gl ?_
          refine cd (orowner_ok c.base (s.getD j dP).path hb) ?_
          refine gl ?_
          generalize ownM c.base.packs (s.getD j dP).path = o at m2 ⊢
          obtain ⟨o1, o2⟩ := o
          dsimp only at m2 ⊢
          refine cd (listed_ok f.1 (s.getD j dP).path hfo.1 hfo.1.el) ?_
          refine gl ?_
          repeat' (first | exact True.intro | ((guard_target = False; clear hs hf hfo hc hb hl hm hg; grind only)) | refine cd (listed_ok c.m (s.getD j dP).path hm.1 hel) (gl ?_) | refine cd (listed_ok f.1 (s.getD j dP).target hfo.1 hfo.1.el) (gl ?_) | (refine ⟨j + 1, (by omega), (by omega), fits_of (gl ?_) (gl ?_) (gl ?_) (gl ?_) (gl ?_)⟩ <;> (first | exact True.intro | exact ⟨rfl, rfl⟩ | exact ⟨rfl, rfl, rfl⟩ | rfl | exact rowc (List.map_id _) | trivial); done) | refine br (fun h => ?_) (fun h => ?_) | refine gl ?_)
        · try refine gl ?_
          refine ⟨i + 1, (by omega), (by omega), fits_of (gl ?_) (gl ?_) (gl ?_) (gl ?_) (gl ?_)⟩
          · first | exact True.intro | exact ⟨rfl, rfl⟩ | exact ⟨rfl, rfl, rfl⟩ | rfl | exact rowc (List.map_id _) | trivial
          · first | exact True.intro | exact ⟨rfl, rfl⟩ | exact ⟨rfl, rfl, rfl⟩ | rfl | exact rowc (List.map_id _) | trivial
          · first | exact True.intro | exact ⟨rfl, rfl⟩ | exact ⟨rfl, rfl, rfl⟩ | rfl | exact rowc (List.map_id _) | trivial
          · first | exact True.intro | exact ⟨rfl, rfl⟩ | exact ⟨rfl, rfl, rfl⟩ | rfl | exact rowc (List.map_id _) | trivial
          · first | exact True.intro | exact ⟨rfl, rfl⟩ | exact ⟨rfl, rfl, rfl⟩ | rfl | exact rowc (List.map_id _) | trivial
    · try refine gl ?_
      refine cl (awake_ok) ?_
      refine gl ?_
      trivial
end Go.Proofs.YtjbnmeofjiokeaaGreatDoor.Ev

