/- Plans: the database behind them. -/
import Derived.Test.YtjbnmeofjiokeaaGreatDoorQS
import Derived.Test.YtjbnmeofjiokeaaGreatDoorQR
set_option linter.all false
namespace Go.Proofs.YtjbnmeofjiokeaaGreatDoor.Ev
open Go.RowKit
open Go.Proofs.YtjbnmeofjiokeaaGreatDoor.Mem
set_option linter.unusedVariables false
set_option linter.unusedSimpArgs false
set_option maxRecDepth 100000
theorem install_facts {b : Bas} {l : List Stt} {m : Man} {ms : List Mbr} (hb : b.Big) (hm : m.Fit ∧ m.Big) (he : m.ents.length ≤ 500) (hc : checkM m = 0) : (installM b l m ms).2.1.Big ∧ BasOk (installM b l m ms).2.1 ∧
    ((installM b l m ms).2.2 = 0 → (findM b.packs m.name).2 = false ∧ findM (installM b l m ms).2.1.packs m.name = (m, true) ∧ (∀ x ∈ b.packs, ¬ x.name = m.name → findM (installM b l m ms).2.1.packs x.name = (x, true)) ∧ (installM b l m ms).2.1.packs.length = b.packs.length + 1) := by
  by_cases h : (installM b l m ms).2.2 = 0
  · obtain ⟨h1, h2, mk, h3, h4⟩ := install_base hc h
    rw [h3]
    have hl := h1.len
    have hd := (dirs_good h1).2
    exact ⟨add_big hb (by omega) (by omega) hm (by omega) (fun x hx => (hm.1.es x hx).1), h4, fun _ => ⟨h2, find_add h4 (.inl rfl), fun x hx _ => find_add h4 (.inr hx), insM_len _ _⟩⟩
  · rcases install_cases b l m ms with ⟨e, h1, h2⟩ | ⟨_, _, _, _, h2⟩
    · rw [h2]; exact ⟨bnil_big, bnil_ok, fun e => absurd e h1⟩
    · rw [h2] at h; exact absurd rfl h
theorem upgrade_facts {b : Bas} {l : List Stt} {m : Man} {ms : List Mbr} (hb : b.Big) (hm : m.Fit ∧ m.Big) (he : m.ents.length ≤ 500) (hc : checkM m = 0) : (upgradeM b l m ms).2.1.Big ∧ BasOk (upgradeM b l m ms).2.1 ∧
    ((upgradeM b l m ms).2.2 = 0 → (findM b.packs m.name).2 = true ∧ findM (upgradeM b l m ms).2.1.packs m.name = (m, true) ∧ ∀ x ∈ b.packs, ¬ x.name = m.name → findM (upgradeM b l m ms).2.1.packs x.name = (x, true)) := by
  by_cases h : (upgradeM b l m ms).2.2 = 0
  · obtain ⟨h1, h2, mk, h3, h4⟩ := upgrade_base hc h
    rw [h3]
    have hl := h1.len
    have hd := (dirs_good h1).2
    have hwl : (withoutB b m.name).packs.length ≤ b.packs.length := List.length_filter_le _ _
    have hwd : (withoutB b m.name).dirs.length ≤ b.dirs.length := List.length_filterMap_le _ _
    exact ⟨add_big (without_big hb) (by omega) (by omega) hm (by omega) (fun x hx => (hm.1.es x hx).1), h4, fun _ => ⟨h2, find_add h4 (.inl rfl), fun x hx hn => find_add h4 (.inr (List.mem_filter.2 ⟨hx, decide_eq_true hn⟩))⟩⟩
  · rcases upgrade_cases b l m ms with ⟨e, h1, h2⟩ | ⟨_, _, f, _, g, _, _, c, _, _, mk, h2⟩
    · rw [h2]; exact ⟨bnil_big, bnil_ok, fun e => absurd e h1⟩
    · rw [h2] at h; exact absurd rfl h
theorem remove_facts {b : Bas} {l : List Stt} {n : List UInt8} (hb : b.Big) : (removeM b l n).2.1.Big ∧ BasOk (removeM b l n).2.1 ∧ (findM (removeM b l n).2.1.packs n).2 = false ∧
    ((removeM b l n).2.2 = 0 → (findM b.packs n).2 = true ∧ ∀ x ∈ b.packs, ¬ x.name = n → findM (removeM b l n).2.1.packs x.name = (x, true)) := by
  by_cases h : (removeM b l n).2.2 = 0
  · obtain ⟨h1, h2, h3, h4⟩ := remove_base h
    rw [h3]
    exact ⟨without_big hb, h4, findM_no.2 without_no, fun _ => ⟨h2, fun x hx hn => (find_rest h4 hx hn).2⟩⟩
  · rcases remove_cases b l n with ⟨e, h1, h2⟩ | ⟨_, _, _, h2⟩
    · rw [h2]; exact ⟨bnil_big, bnil_ok, rfl, fun e => absurd e h1⟩
    · rw [h2] at h; exact absurd rfl h
theorem same_ok2 (x y : Man) (h : y = x) (hx : x.Fit) : Spec Tryz.prog LL 15 [eMan x, eMan y] (.b true) := by
  subst h
  exact same_ok y hx
open Classical in
theorem orcheck2 (b : Bas) (hb : b.Big) (h : BasOk b) : Spec Tryz.prog LL 16 [eBas b] (.b true) := by
  have := orcheck_ok b hb
  rwa [decide_eq_true h] at this
theorem same_ok3 (x y : Man) (h : x = y) (hx : y.Fit) : Spec Tryz.prog LL 15 [eMan x, eMan y] (.b true) := by
  subst h
  exact same_ok x hx
set_option maxHeartbeats 16000000 in
theorem base_ok (c : Cse) (hc : c.Big) : Spec Tryz.prog LL 4 [eCse c] (.b true) := by
  refine spec_of (C := ⟨Tryz.prog, LL, EE, [8, 23]⟩) (rl := [.b true]) (rs := [.tmp 2]) CCx LLs Tryz.func4 rfl (by kernel_rfl) rfl (by kernel_rfl) (Nat.le_of_ble_eq_true rfl) (fun i => rfl) (fun i => by first | rfl | exact (Bool.or_false _).trans (eSd_men _ _)) rfl (by decide) ?_
  refine gl ?_
  have hb := hc.b
  have hbp := hb.p
  have hl := hc.t
  have hm := hc.m
  have hel := hm.1.el
  have hk := hc.k
  refine cl (great_ok c.base c.tree c.m c.members hb hl (by omega) hk) ?_
  refine gl ?_
  have hg := @great_no c.base c.tree c.m c.members
  generalize great2 c.base c.tree c.m c.members = g at hg ⊢
  cases g with
  | true =>
    try refine gl ?_
    refine cl (awake_ok) ?_
    refine gl ?_
    trivial
  | false =>
    have he := hg rfl
    clear hg
    try refine gl ?_
    refine cl (rcheck_ok c.m hm.1) ?_
    refine gl ?_
    refine br (fun hck => ?_) (fun hck => ?_)
    · try refine gl ?_
      refine cl (awake_ok) ?_
      refine gl ?_
      trivial
    · have hck := Decidable.not_not.1 hck
      try refine gl ?_
      refine cl (install_ok c.base c.tree c.m c.members hb hl hc.d hm (by omega) hk) ?_
      refine gl ?_
      refine cl (upgrade_ok c.base c.tree c.m c.members hb hl hc.d hm (by omega) hk) ?_
      refine gl ?_
      refine cl (remove_ok c.base c.tree c.m.name hb hl hc.d) ?_
      refine gl ?_
      obtain ⟨a1, a2, a3⟩ := install_facts (l := c.tree) (ms := c.members) hb hm he hck
      obtain ⟨b1, b2, b3⟩ := upgrade_facts (l := c.tree) (ms := c.members) hb hm he hck
      obtain ⟨d1, d2, d3, d4⟩ := remove_facts (l := c.tree) (n := c.m.name) hb
      generalize installM c.base c.tree c.m c.members = oa at a1 a2 a3 ⊢
      generalize upgradeM c.base c.tree c.m c.members = ob at b1 b2 b3 ⊢
      generalize removeM c.base c.tree c.m.name = od at d1 d2 d3 d4 ⊢
      obtain ⟨s1, a, e⟩ := oa
      obtain ⟨s2, b, f⟩ := ob
      obtain ⟨s3, d, g⟩ := od
      dsimp only at a1 a2 a3 b1 b2 b3 d1 d2 d3 d4 ⊢
      have hef : ¬ (e = 0 ∧ f = 0) := fun ⟨h1, h2⟩ => by
        have k1 := (a3 h1).1
        rw [(b3 h2).1] at k1
        cases k1
      refine ct_hd [1, 4, 5, 7, 8, 10, 11] [1, 4, 7, 10] (fun u : Unit => []) (fun u : Unit => []) (fun u : Unit => True) (gl ?_) ?_
      · try refine gl ?_
        repeat' (first | exact True.intro | refine cl (awake_ok) (gl ?_) | (refine wk_fit (()) id (trivial) (fits_of (gl ?_) (gl ?_) (gl ?_) (gl ?_) (gl ?_)) <;> (first | exact True.intro | exact ⟨rfl, rfl⟩ | exact ⟨rfl, rfl, rfl⟩ | rfl | exact rowc (List.map_id _) | trivial); done) | refine br (fun h => ?_) (fun h => ?_) | refine gl ?_)
      · rintro u -
        try refine gl ?_
        refine lp_hd [1, 4, 5, 7, 8, 10, 11] [1, 4, 7, 10] (fun i : Nat => [(12, .n .i64 (i : Int))]) (fun i : Nat => []) (fun i : Nat => i ≤ c.base.packs.length) (fun i : Nat => c.base.packs.length - i) (0) id (id) (Nat.zero_le _) (fits_of (gl ?_) (gl ?_) (gl ?_) (gl ?_) (gl ?_)) ?_
        · first | exact True.intro | exact ⟨rfl, rfl⟩ | exact ⟨rfl, rfl, rfl⟩ | rfl | exact rowc (List.map_id _) | trivial
        · first | exact True.intro | exact ⟨rfl, rfl⟩ | exact ⟨rfl, rfl, rfl⟩ | rfl | exact rowc (List.map_id _) | trivial
        · first | exact True.intro | exact ⟨rfl, rfl⟩ | exact ⟨rfl, rfl, rfl⟩ | rfl | exact rowc (List.map_id _) | trivial
        · first | exact True.intro | exact ⟨rfl, rfl⟩ | exact ⟨rfl, rfl, rfl⟩ | rfl | exact rowc (List.map_id _) | trivial
        · first | exact True.intro | exact ⟨rfl, rfl⟩ | exact ⟨rfl, rfl, rfl⟩ | rfl | exact rowc (List.map_id _) | trivial
        rintro i hi
        try refine gl ?_
        refine br (fun e2 => ?_) (fun e2 => ?_)
        · have hin := getD_mem (x := dMn) (show i < c.base.packs.length by omega)
          have hx := (hb.m _ hin).1
          try refine gl ?_
          generalize c.base.packs.getD i dMn = x at hin hx ⊢
          refine br (fun en => ?_) (fun en => ?_)
          · try refine gl ?_
            refine ⟨i + 1, (by omega), (by omega), fits_of (gl ?_) (gl ?_) (gl ?_) (gl ?_) (gl ?_)⟩
            · first | exact True.intro | exact ⟨rfl, rfl⟩ | exact ⟨rfl, rfl, rfl⟩ | rfl | exact rowc (List.map_id _) | trivial
            · first | exact True.intro | exact ⟨rfl, rfl⟩ | exact ⟨rfl, rfl, rfl⟩ | rfl | exact rowc (List.map_id _) | trivial
            · first | exact True.intro | exact ⟨rfl, rfl⟩ | exact ⟨rfl, rfl, rfl⟩ | rfl | exact rowc (List.map_id _) | trivial
            · first | exact True.intro | exact ⟨rfl, rfl⟩ | exact ⟨rfl, rfl, rfl⟩ | rfl | exact rowc (List.map_id _) | trivial
            · first | exact True.intro | exact ⟨rfl, rfl⟩ | exact ⟨rfl, rfl, rfl⟩ | rfl | exact rowc (List.map_id _) | trivial
          · try refine gl ?_
            refine cl (orfind_ok a x.name a1) ?_
            refine gl ?_
            refine cl (orfind_ok b x.name b1) ?_
            refine gl ?_
            refine cl (orfind_ok d x.name d1) ?_
            refine gl ?_
            have fa : e = 0 → findM a.packs x.name = (x, true) := fun h => (a3 h).2.2.1 x hin en
            have fb : f = 0 → findM b.packs x.name = (x, true) := fun h => (b3 h).2.2 x hin en
            have fd : g = 0 → findM d.packs x.name = (x, true) := fun h => (d4 h).2 x hin en
            generalize findM a.packs x.name = ra at fa ⊢
            generalize findM b.packs x.name = rb at fb ⊢
            generalize findM d.packs x.name = rd at fd ⊢
            obtain ⟨ya, pa⟩ := ra
            obtain ⟨yb, pb⟩ := rb
            obtain ⟨yd, pd⟩ := rd
            dsimp only at fa fb fd ⊢
            have fa1 : e = 0 → ya = x := fun h => congrArg Prod.fst (fa h)
            have fa2 : e = 0 → pa = true := fun h => congrArg Prod.snd (fa h)
            have fb1 : f = 0 → yb = x := fun h => congrArg Prod.fst (fb h)
            have fb2 : f = 0 → pb = true := fun h => congrArg Prod.snd (fb h)
            have fd1 : g = 0 → yd = x := fun h => congrArg Prod.fst (fd h)
            have fd2 : g = 0 → pd = true := fun h => congrArg Prod.snd (fd h)
            clear fa fb fd a3 b3 d4
            repeat' (first | exact True.intro | (exfalso; omega) | ((guard_target = False; clear hef; grind only)) | refine cl (same_ok2 x ya (fa1 (by omega)) hx) (gl ?_) | refine cl (same_ok2 x yb (fb1 (by omega)) hx) (gl ?_) | refine cl (same_ok2 x yd (fd1 (by omega)) hx) (gl ?_) | (refine ⟨i + 1, (by omega), (by omega), fits_of (gl ?_) (gl ?_) (gl ?_) (gl ?_) (gl ?_)⟩ <;> (first | exact True.intro | exact ⟨rfl, rfl⟩ | exact ⟨rfl, rfl, rfl⟩ | rfl | exact rowc (List.map_id _) | trivial); done) | refine br (fun h => ?_) (fun h => ?_) | refine gl ?_)
        · try refine gl ?_
          refine cl (orfind_ok a c.m.name a1) ?_
          refine gl ?_
          refine cl (orfind_ok b c.m.name b1) ?_
          refine gl ?_
          refine cl (orfind_ok d c.m.name d1) ?_
          refine gl ?_
          have fa : e = 0 → findM a.packs c.m.name = (c.m, true) ∧ a.packs.length = c.base.packs.length + 1 := fun h => ⟨(a3 h).2.1, (a3 h).2.2.2⟩
          have fb : f = 0 → findM b.packs c.m.name = (c.m, true) := fun h => (b3 h).2.1
          clear a3 b3 d4
          generalize findM a.packs c.m.name = ra at fa ⊢
          generalize findM b.packs c.m.name = rb at fb ⊢
          generalize findM d.packs c.m.name = rd at d3 ⊢
          obtain ⟨ya, pa⟩ := ra
          obtain ⟨yb, pb⟩ := rb
          obtain ⟨yd, pd⟩ := rd
          dsimp only at fa fb d3 ⊢
          subst d3
          have fa1 : e = 0 → ya = c.m := fun h => congrArg Prod.fst (fa h).1
          have fa2 : e = 0 → pa = true := fun h => congrArg Prod.snd (fa h).1
          have fa3 : e = 0 → a.packs.length = c.base.packs.length + 1 := fun h => (fa h).2
          have fb1 : f = 0 → yb = c.m := fun h => congrArg Prod.fst (fb h)
          have fb2 : f = 0 → pb = true := fun h => congrArg Prod.snd (fb h)
          clear fa fb
          refine ct_hd [1, 4, 5, 8, 7, 10] [1, 4, 7, 10] (fun u : Unit => []) (fun u : Unit => []) (fun u : Unit => True) (gl ?_) ?_
          · try refine gl ?_
            repeat' (first | exact True.intro | (exfalso; omega) | ((guard_target = False; clear hef; grind only)) | refine cl (same_ok3 ya c.m (fa1 (by omega)) hm.1) (gl ?_) | refine cl (same_ok3 yb c.m (fb1 (by omega)) hm.1) (gl ?_) | (refine wk_fit (()) id (trivial) (fits_of (gl ?_) (gl ?_) (gl ?_) (gl ?_) (gl ?_)) <;> (first | exact True.intro | exact ⟨rfl, rfl⟩ | exact ⟨rfl, rfl, rfl⟩ | rfl | exact rowc (List.map_id _) | trivial); done) | refine br (fun h => ?_) (fun h => ?_) | refine gl ?_)
          · rintro u -
            try refine gl ?_
            refine cl (orcheck2 a a1 a2) ?_
            refine gl ?_
            refine cl (orcheck2 b b1 b2) ?_
            refine gl ?_
            refine cl (orcheck2 d d1 d2) ?_
            refine gl ?_
            repeat' (first | exact True.intro | (exfalso; omega) | refine cl (awake_ok) (gl ?_) | ((guard_target = False; clear hef; grind only)) | refine br (fun h => ?_) (fun h => ?_) | refine gl ?_)
end Go.Proofs.YtjbnmeofjiokeaaGreatDoor.Ev

