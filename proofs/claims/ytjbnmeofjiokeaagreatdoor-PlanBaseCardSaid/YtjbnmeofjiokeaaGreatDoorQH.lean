/- Plans: how a package goes. -/
import Derived.Test.YtjbnmeofjiokeaaGreatDoorQF
import Derived.Test.YtjbnmeofjiokeaaGreatDoorPH
import Derived.Test.YtjbnmeofjiokeaaGreatDoorQB
import Derived.Test.YtjbnmeofjiokeaaGreatDoorVC
set_option linter.all false
namespace Go.Proofs.YtjbnmeofjiokeaaGreatDoor.Ev
open Go.RowKit
open Go.Proofs.YtjbnmeofjiokeaaGreatDoor.Mem
set_option linter.unusedVariables false
set_option linter.unusedSimpArgs false
set_option maxRecDepth 100000
theorem find_in {l : List Man} {w : List UInt8} (h : (findM l w).2 = true) : (findM l w).1 ∈ l ∧ (findM l w).1.name = w := by
  induction l with
  | nil => simp [findM] at h
  | cons s r ih =>
    unfold findM at h ⊢
    split at h
    · rename_i e; rw [if_pos e]; exact ⟨by simp, e⟩
    · rename_i e; rw [if_neg e]; obtain ⟨h1, h2⟩ := ih h; exact ⟨by simp [h1], h2⟩
theorem without_big {b : Bas} {w : List UInt8} (h : b.Big) : (withoutB b w).Big := by
  refine ⟨Nat.le_trans (List.length_filter_le _ _) h.p, Nat.le_trans (List.length_filterMap_le _ _) h.d, fun m hm => h.m m (List.mem_filter.1 hm).1, fun x hx => ?_⟩
  obtain ⟨d, hd, e⟩ := List.mem_filterMap.1 hx
  unfold goD at e
  split at e
  · split at e
    · simp at e
    · simp only [Option.some.injEq] at e
      rw [← e]
      exact h.s d hd
  · simp only [Option.some.injEq] at e
    rw [← e]
    exact h.s d hd
theorem pgoesL_len (q : Mak) : ∀ (E : List Ent) (s : List Stp), (pgoesL q E s).2.length ≤ s.length + 2 * E.length
  | [], s => Nat.le_add_right _ _
  | x :: r, s => by
    have h1 := saveM_len q s x.path
    have h2 := pgoesL_len q r s
    have h3 := pgoesL_len q r (s ++ [cutS x.path])
    have h4 := pgoesL_len q r (saveM q s x.path).2
    simp only [List.length_append, List.length_nil, List.length_cons] at *
    unfold pgoesL
    repeat' split
    all_goals omega
open Classical in
noncomputable def removeM (b : Bas) (l : List Stt) (w : List UInt8) : List Stp × Bas × Int :=
  if ¬ BasOk b then ([], ⟨[], []⟩, 1) else if ¬ (findM b.packs w).2 = true then ([], ⟨[], []⟩, 18)
  else if ¬ (pgoesL ⟨b, l, (findM b.packs w).1, dMn⟩ (findM b.packs w).1.ents []).1 = 0 then ([], ⟨[], []⟩, (pgoesL ⟨b, l, (findM b.packs w).1, dMn⟩ (findM b.packs w).1.ents []).1)
  else (emptM (withoutB b w) b.dirs.reverse (pgoesL ⟨b, l, (findM b.packs w).1, dMn⟩ (findM b.packs w).1.ents []).2, withoutB b w, 0)
open Classical in
set_option maxHeartbeats 4000000 in
theorem remove_ok (b : Bas) (l : List Stt) (w : List UInt8) (hb : b.Big) (hl : l.length ≤ 100000000000000) (hld : ∀ s ∈ l, s.data.length ≤ 140737488355328) : Spec Tryz.prog LL 11 [eBas b, .sl 8 Stt dT l eStt, .s w] (.tp [.sl 8 Stp dP (removeM b l w).1 eStp, eBas (removeM b l w).2.1, .n .i64 (removeM b l w).2.2]) := by
  refine spec_of (C := ⟨Tryz.prog, LL, EE, [12]⟩) (rl := [.sl 8 Stp dP (removeM b l w).1 eStp, eBas (removeM b l w).2.1, .n .i64 (removeM b l w).2.2]) (rs := [.tmp 6, .cell 7 25, .tmp 8]) CCx LLs Tryz.func11 rfl (by kernel_rfl) rfl (by kernel_rfl) (Nat.le_of_ble_eq_true rfl) (fun i => rfl) (fun i => by first | rfl | exact (Bool.or_false _).trans (eSd_men _ _)) rfl (by decide) ?_
  refine gj ?_
  obtain ⟨r, hr⟩ : ∃ r, r = removeM b l w := ⟨_, rfl⟩
  rw [← hr]
  unfold removeM at hr
  refine cl (ocheck_ok b hb) ?_
  refine gj ?_
  refine br (fun hok => ?_) (fun hok => ?_)
  · rw [if_pos hok] at hr
    subst hr
    try refine gj ?_
    exact nb_le
  · have hok := Decidable.not_not.1 hok
    rw [if_neg (fun h => h hok)] at hr
    try refine gj ?_
    refine cl (find_ok b w hb) ?_
    refine gj ?_
    have hfi := find_in (l := b.packs) (w := w)
    generalize findM b.packs w = fm at hr hfi ⊢
    obtain ⟨f1, f2⟩ := fm
    dsimp only at hr hfi ⊢
    cases f2 with
    | false =>
      rw [if_pos (by simp)] at hr
      subst hr
      try refine gj ?_
      exact nb_le
    | true =>
      rw [if_neg (by simp)] at hr
      obtain ⟨hf1, hf2⟩ := hfi rfl
      have hf3 := (ManOk.of (hok.chk f1 hf1)).el
      have hf4 := hb.m f1 hf1
      try refine gj ?_
      obtain ⟨q, hq⟩ : ∃ q : Mak, q = ⟨b, l, f1, dMn⟩ := ⟨_, rfl⟩
      rw [← hq] at hr
      have hqB : q.Big := by subst hq; exact ⟨hb, hl, hld, by dsimp only; omega, by simp [dMn], fun x hx => (hf4.1.es x hx).1, fun x hx => by simp [dMn] at hx⟩
      refine cw ?_
      refine wk_nilc 31 65 [.sl 5 Man dMn b.packs eMan, .sl 3 Shr dS b.dirs eShr, .sl 8 Stt dT l eStt, .s f1.name, .s f1.ver, .sl 3 Rul dR f1.needs eRul, .sl 3 Rul dR f1.clashes eRul, .sl 5 Ent dE f1.ents eEnt, .s [], .s [], .nl, .nl, .nl, .nl, .nl] 13 301 46 hSt (gj ?_) (gj ?_) (gj ?_) ?_
      · trivial
      · trivial
      · trivial
      refine wk_nilc 31 65 [.sl 5 Man dMn b.packs eMan, .sl 3 Shr dS b.dirs eShr, .sl 8 Stt dT l eStt, .s f1.name, .s f1.ver, .sl 3 Rul dR f1.needs eRul, .sl 3 Rul dR f1.clashes eRul, .sl 5 Ent dE f1.ents eEnt, .s [], .s [], .nl, .nl, .nl, .ow 301 0, .nl] 14 302 9 hS (gj ?_) (gj ?_) (gj ?_) ?_
      · trivial
      · trivial
      · trivial
      refine wk_leB 31 (l := [.sl 5 Man dMn b.packs eMan, .sl 3 Shr dS b.dirs eShr, .sl 8 Stt dT l eStt, .s f1.name, .s f1.ver, .sl 3 Rul dR f1.needs eRul, .sl 3 Rul dR f1.clashes eRul, .sl 5 Ent dE f1.ents eEnt, .s [], .s [], .nl, .nl, .nl, .ow 301 0, .ow 302 0]) [.sl 5 Man dMn b.packs eMan, .sl 3 Shr dS b.dirs eShr, .sl 8 Stt dT l eStt, .s f1.name, .s f1.ver, .sl 3 Rul dR f1.needs eRul, .sl 3 Rul dR f1.clashes eRul, .sl 5 Ent dE f1.ents eEnt, .s [], .s [], .sl 3 Rul dR [] eRul, .sl 3 Rul dR [] eRul, .sl 5 Ent dE [] eEnt, .ow 301 0, .ow 302 0] rfl ?_ ?_ ?_
      · repeat' apply And.intro
        all_goals first | exact le_refl _ | exact le_nl | trivial
      · intro k
        simp [menL, men]
      refine wk_now ?_
      refine cpP (fun i => if i = 0 then 301 else if i = 1 then 302 else 31) (fun i => if i = 0 then 303 else if i = 1 then 304 else 31) (pgoes_ok q [] [] hqB (by decide) (by subst hq; dsimp only; omega)) (gj ?_) (gj ?_) (gj ?_) (gj ?_) (gj ?_) ?_
      · trivial
      · subst hq
        exact ⟨rfl, rfl, rfl⟩
      · trivial
      · trivial
      · trivial
      rw [show q.old.ents = f1.ents by rw [hq]]
      have hom := pgoesL_len q f1.ents []
      generalize pgoesL q f1.ents [] = o at hr hom ⊢
      obtain ⟨oe, os⟩ := o
      dsimp only at hr hom ⊢
      subst hq
      try refine gj ?_
      refine br (fun er => ?_) (fun er => ?_)
      · rw [if_pos er] at hr
        subst hr
        try refine gj ?_
        exact nb_le
      · rw [if_neg er] at hr
        try refine gj ?_
        have hdl := (dirs_good hok).2
        have hrf : ∀ d ∈ b.dirs, (0 : Int) ≤ d.refs ∧ d.refs ≤ 1000000 := fun d hd => by have := ((dirs_good hok).1 d hd).2; omega
        refine cl (owithout_ok b w hb (fun d hd => by have := hrf d hd; omega)) ?_
        refine gj ?_
        refine ct_hd [7, 13] [7, 13] (fun u : Unit => [(11, .p 31 0)]) (fun u : Unit => [(31, .cells 65 [.sl 5 Man dMn b.packs eMan, .sl 3 Shr dS b.dirs eShr, .sl 8 Stt dT l eStt, .s f1.name, .s f1.ver, .sl 3 Rul dR f1.needs eRul, .sl 3 Rul dR f1.clashes eRul, .sl 5 Ent dE f1.ents eEnt, .s [], .s [], .sl 3 Rul dR [] eRul, .sl 3 Rul dR [] eRul, .sl 5 Ent dE [] eEnt, .sl 8 Stp dP (emptM (withoutB b w) b.dirs.reverse os) eStp, .j])]) (fun u : Unit => True) (gj ?_) ?_
        · refine cw ?_
          refine wk_jB 31 14 (T := 65) (l := [.sl 5 Man dMn b.packs eMan, .sl 3 Shr dS b.dirs eShr, .sl 8 Stt dT l eStt, .s f1.name, .s f1.ver, .sl 3 Rul dR f1.needs eRul, .sl 3 Rul dR f1.clashes eRul, .sl 5 Ent dE f1.ents eEnt, .s dMn.name, .s dMn.ver, .sl 3 Rul dR dMn.needs eRul, .sl 3 Rul dR dMn.clashes eRul, .sl 5 Ent dE dMn.ents eEnt, .ow 303 os.length, .ow 304 0]) [.sl 5 Man dMn b.packs eMan, .sl 3 Shr dS b.dirs eShr, .sl 8 Stt dT l eStt, .s f1.name, .s f1.ver, .sl 3 Rul dR f1.needs eRul, .sl 3 Rul dR f1.clashes eRul, .sl 5 Ent dE f1.ents eEnt, .s dMn.name, .s dMn.ver, .sl 3 Rul dR dMn.needs eRul, .sl 3 Rul dR dMn.clashes eRul, .sl 5 Ent dE dMn.ents eEnt, .ow 303 os.length, .j] (gj ?_) rfl ?_
          · trivial
          refine wk_now ?_
          refine cpP (fun i => if i = 0 then 303 else 31) (fun i => if i = 0 then 305 else 31) (pempt_ok ⟨b, l, f1, dMn⟩ os (withoutB b w) (without_big hb) (by simp at hom; omega) (by dsimp only; omega)) (gj ?_) (gj ?_) (gj ?_) (gj ?_) (gj ?_) ?_
          all_goals first | trivial | exact ⟨rfl, rfl⟩ | exact ⟨rfl, rfl, rfl⟩ | exact le_refl _ | refine gj ?_
          refine wk_fz [305] ?_
          refine wk_fit (()) (id) (trivial) (fits_of (gj ?_) (gj ?_) (gj ?_) (gj ?_) (gj ?_))
          · first | exact True.intro | exact ⟨rfl, rfl⟩ | exact ⟨rfl, rfl, rfl⟩ | rfl | exact rowc (List.map_id _) | trivial
          · first | exact True.intro | exact ⟨rfl, rfl⟩ | exact ⟨rfl, rfl, rfl⟩ | rfl | exact rowc (List.map_id _) | trivial
          · first | exact True.intro | exact ⟨rfl, rfl⟩ | exact ⟨rfl, rfl, rfl⟩ | rfl | exact rowc (List.map_id _) | trivial
          · first | exact True.intro | exact ⟨rfl, rfl⟩ | exact ⟨rfl, rfl, rfl⟩ | rfl | exact rowc (List.map_id _) | trivial
          · first | exact True.intro | exact ⟨rfl, rfl⟩ | exact ⟨rfl, rfl, rfl⟩ | rfl | exact rowc (List.map_id _) | trivial
        · rintro u -
          subst hr
          try refine gj ?_
          trivial
end Go.Proofs.YtjbnmeofjiokeaaGreatDoor.Ev
namespace Go.Proofs.YtjbnmeofjiokeaaGreatDoor.Ev
open Go.RowKit
open Go.Proofs.YtjbnmeofjiokeaaGreatDoor.Mem
set_option linter.unusedVariables false
set_option linter.unusedSimpArgs false
set_option maxRecDepth 100000
theorem addDirs_len {f : List UInt8 → Bool} : ∀ (E : List Ent) (l : List Shr), (addDirs f E l).length ≤ l.length + E.length
  | [], l => by simp [addDirs]
  | x :: r, l => by
    unfold addDirs
    have h := addDirs_len (f := f) r (if x.kind = 2 then joinM l x.path (f x.path) else l)
    split at h
    · have := joinM_len l x.path (f x.path)
      simp only [List.length_cons]
      rename_i hk
      rw [if_pos hk]
      omega
    · rename_i hk
      rw [if_neg hk]
      simp only [List.length_cons]
      omega
theorem joinM_path {l : List Shr} {p : List UInt8} {mk : Bool} {e : Shr} (h : e ∈ joinM l p mk) : e.path = p ∨ ∃ d ∈ l, d.path = e.path := by
  unfold joinM at h
  split at h
  · have : e.path ∈ (bump l p).map (·.path) := List.mem_map.2 ⟨e, h, rfl⟩
    rw [bump_paths] at this
    obtain ⟨d, hd, h1⟩ := List.mem_map.1 this
    exact .inr ⟨d, hd, h1⟩
  · rcases insS_in h with rfl | h
    · exact .inl rfl
    · exact .inr ⟨e, h, rfl⟩
theorem addDirs_path {f : List UInt8 → Bool} : ∀ (E : List Ent) (l : List Shr), ∀ e ∈ addDirs f E l, (∃ x ∈ E, x.path = e.path) ∨ ∃ d ∈ l, d.path = e.path
  | [], l, e, h => .inr ⟨e, h, rfl⟩
  | x :: r, l, e, h => by
    unfold addDirs at h
    rcases addDirs_path (f := f) r _ e h with ⟨y, hy, h1⟩ | ⟨d, hd, h1⟩
    · exact .inl ⟨y, by simp [hy], h1⟩
    · split at hd
      · rcases joinM_path hd with h2 | ⟨d2, hd2, h2⟩
        · exact .inl ⟨x, by simp, by rw [← h1, h2]⟩
        · exact .inr ⟨d2, hd2, by rw [h2, h1]⟩
      · exact .inr ⟨d, hd, h1⟩
theorem add_big {b : Bas} {m : Man} {f : List UInt8 → Bool} (hb : b.Big) (hp : b.packs.length ≤ 1000) (hd : b.dirs.length ≤ 100000) (hm : m.Fit ∧ m.Big) (he : m.ents.length ≤ 1000) (hs : ∀ x ∈ m.ents, x.path.length ≤ 140737488355328) : (addB b m f).Big := by
  refine ⟨?_, ?_, fun x hx => ?_, fun e he2 => ?_⟩
  · show (insM b.packs m).length ≤ _
    rw [insM_len]; omega
  · have := addDirs_len (f := f) m.ents b.dirs
    show (addDirs f m.ents b.dirs).length ≤ _
    omega
  · rcases insM_mem.1 hx with rfl | hx
    · exact hm
    · exact hb.m x hx
  · rcases addDirs_path m.ents b.dirs e he2 with ⟨x, hx, h1⟩ | ⟨d, hd2, h1⟩
    · rw [← h1]; exact hs x hx
    · rw [← h1]; exact hb.s d hd2
end Go.Proofs.YtjbnmeofjiokeaaGreatDoor.Ev
namespace Go.Proofs.YtjbnmeofjiokeaaGreatDoor.Ev
open Go.RowKit
open Go.Proofs.YtjbnmeofjiokeaaGreatDoor.Mem
set_option linter.unusedVariables false
set_option linter.unusedSimpArgs false
set_option maxRecDepth 100000
theorem without_refs {b : Bas} {w : List UInt8} (h : ∀ d ∈ b.dirs, (0 : Int) ≤ d.refs ∧ d.refs ≤ 1000000) : ∀ d ∈ (withoutB b w).dirs, (-1 : Int) ≤ d.refs ∧ d.refs ≤ 1000000 := fun d hd => by
  obtain ⟨e, he, hx⟩ := List.mem_filterMap.1 hd
  have := h e he
  unfold goD at hx
  split at hx
  · split at hx
    · simp at hx
    · simp only [Option.some.injEq] at hx
      rw [← hx]
      dsimp only
      omega
  · simp only [Option.some.injEq] at hx
    rw [← hx]
    omega
/-- The directories that were made. -/
def madeL (l : List Shr) : List (List UInt8) := (l.filter (·.made)).map (·.path)
open Classical in
noncomputable def upgradeM (b : Bas) (l : List Stt) (m : Man) (ms : List Mbr) : List Stp × Bas × Int :=
  if ¬ BasOk b then ([], ⟨[], []⟩, 1) else if ¬ (findM b.packs m.name).2 = true then ([], ⟨[], []⟩, 18)
  else if ¬ (pgoesL ⟨b, l, (findM b.packs m.name).1, m⟩ (findM b.packs m.name).1.ents []).1 = 0 then ([], ⟨[], []⟩, (pgoesL ⟨b, l, (findM b.packs m.name).1, m⟩ (findM b.packs m.name).1.ents []).1)
  else if ¬ (pcomesM ⟨b, l, (findM b.packs m.name).1, m⟩ ms (pgoesL ⟨b, l, (findM b.packs m.name).1, m⟩ (findM b.packs m.name).1.ents []).2 []).1 = 0 then ([], ⟨[], []⟩, (pcomesM ⟨b, l, (findM b.packs m.name).1, m⟩ ms (pgoesL ⟨b, l, (findM b.packs m.name).1, m⟩ (findM b.packs m.name).1.ents []).2 []).1)
  else (emptM (addB (withoutB b m.name) m (fun p => decide (p ∈ (pcomesM ⟨b, l, (findM b.packs m.name).1, m⟩ ms (pgoesL ⟨b, l, (findM b.packs m.name).1, m⟩ (findM b.packs m.name).1.ents []).2 []).2.2 ++ madeL b.dirs))) b.dirs.reverse (pcomesM ⟨b, l, (findM b.packs m.name).1, m⟩ ms (pgoesL ⟨b, l, (findM b.packs m.name).1, m⟩ (findM b.packs m.name).1.ents []).2 []).2.1,
    addB (withoutB b m.name) m (fun p => decide (p ∈ (pcomesM ⟨b, l, (findM b.packs m.name).1, m⟩ ms (pgoesL ⟨b, l, (findM b.packs m.name).1, m⟩ (findM b.packs m.name).1.ents []).2 []).2.2 ++ madeL b.dirs)), 0)
open Classical in
set_option maxHeartbeats 4000000 in
theorem upgrade_ok (b : Bas) (l : List Stt) (m : Man) (ms : List Mbr) (hb : b.Big) (hl : l.length ≤ 100000000000000) (hld : ∀ s ∈ l, s.data.length ≤ 140737488355328) (hm : m.Fit ∧ m.Big) (he : m.ents.length ≤ 1000) (hms : ms.length ≤ 100000000000000) : Spec Tryz.prog LL 10 [eBas b, .sl 8 Stt dT l eStt, eMan m, .sl 8 Mbr dMb ms eMbr] (.tp [.sl 8 Stp dP (upgradeM b l m ms).1 eStp, eBas (upgradeM b l m ms).2.1, .n .i64 (upgradeM b l m ms).2.2]) := by
  refine spec_of (C := ⟨Tryz.prog, LL, EE, [14, 20, 22]⟩) (rl := [.sl 8 Stp dP (upgradeM b l m ms).1 eStp, eBas (upgradeM b l m ms).2.1, .n .i64 (upgradeM b l m ms).2.2]) (rs := [.tmp 8, .cell 9 25, .tmp 10]) CCx LLs Tryz.func10 rfl (by kernel_rfl) rfl (by kernel_rfl) (Nat.le_of_ble_eq_true rfl) (fun i => rfl) (fun i => by first | rfl | exact (Bool.or_false _).trans (eSd_men _ _)) rfl (by decide) ?_
  refine gj ?_
  obtain ⟨r, hr⟩ : ∃ r, r = upgradeM b l m ms := ⟨_, rfl⟩
  rw [← hr]
  unfold upgradeM at hr
  refine cl (ocheck_ok b hb) ?_
  refine gj ?_
  refine br (fun hok => ?_) (fun hok => ?_)
  · rw [if_pos hok] at hr
    subst hr
    try refine gj ?_
    exact nb_le
  · have hok := Decidable.not_not.1 hok
    rw [if_neg (fun h => h hok)] at hr
    try refine gj ?_
    refine cl (find_ok b m.name hb) ?_
    refine gj ?_
    have hfi := find_in (l := b.packs) (w := m.name)
    generalize findM b.packs m.name = fm at hr hfi ⊢
    obtain ⟨f1, f2⟩ := fm
    dsimp only at hr hfi ⊢
    cases f2 with
    | false =>
      rw [if_pos (by simp)] at hr
      subst hr
      try refine gj ?_
      exact nb_le
    | true =>
      rw [if_neg (by simp)] at hr
      obtain ⟨hf1, hf2⟩ := hfi rfl
      have hf3 := (ManOk.of (hok.chk f1 hf1)).el
      have hf4 := hb.m f1 hf1
      try refine gj ?_
      have hqB : Mak.Big ⟨b, l, f1, m⟩ := ⟨hb, hl, hld, by dsimp only; omega, by dsimp only; omega, fun x hx => (hf4.1.es x hx).1, fun x hx => (hm.1.es x hx).1⟩
      refine cw ?_
      refine wk_nilc 38 65 [.sl 5 Man dMn b.packs eMan, .sl 3 Shr dS b.dirs eShr, .sl 8 Stt dT l eStt, .s f1.name, .s f1.ver, .sl 3 Rul dR f1.needs eRul, .sl 3 Rul dR f1.clashes eRul, .sl 5 Ent dE f1.ents eEnt, .s m.name, .s m.ver, .sl 3 Rul dR m.needs eRul, .sl 3 Rul dR m.clashes eRul, .sl 5 Ent dE m.ents eEnt, .nl, .nl] 13 301 46 hSt (gj ?_) (gj ?_) (gj ?_) ?_
      · trivial
      · trivial
      · trivial
      refine wk_nilc 38 65 [.sl 5 Man dMn b.packs eMan, .sl 3 Shr dS b.dirs eShr, .sl 8 Stt dT l eStt, .s f1.name, .s f1.ver, .sl 3 Rul dR f1.needs eRul, .sl 3 Rul dR f1.clashes eRul, .sl 5 Ent dE f1.ents eEnt, .s m.name, .s m.ver, .sl 3 Rul dR m.needs eRul, .sl 3 Rul dR m.clashes eRul, .sl 5 Ent dE m.ents eEnt, .ow 301 0, .nl] 14 302 9 hS (gj ?_) (gj ?_) (gj ?_) ?_
      · trivial
      · trivial
      · trivial
      refine wk_now ?_
      refine cpP (fun i => if i = 0 then 301 else if i = 1 then 302 else 38) (fun i => if i = 0 then 303 else if i = 1 then 304 else 38) (pgoes_ok ⟨b, l, f1, m⟩ [] [] hqB (by decide) (by dsimp only; omega)) (gj ?_) (gj ?_) (gj ?_) (gj ?_) (gj ?_) ?_
      all_goals first | trivial | exact ⟨rfl, rfl⟩ | exact ⟨rfl, rfl, rfl⟩ | exact le_refl _ | skip
      have hos := pgoesL_len ⟨b, l, f1, m⟩ f1.ents []
      dsimp only at hos ⊢
      generalize pgoesL ⟨b, l, f1, m⟩ f1.ents [] = o at hr hos ⊢
      obtain ⟨oe, os⟩ := o
      dsimp only at hr hos ⊢
      simp only [List.length_nil, Nat.zero_add] at hos
      try refine gj ?_
      refine br (fun er => ?_) (fun er => ?_)
      · rw [if_pos er] at hr
        subst hr
        try refine gj ?_
        exact nb_le
      · rw [if_neg er] at hr
        try refine gj ?_
        refine cp (fun i => if i = 0 then 303 else if i = 1 then 304 else 38) (fun i => if i = 0 then 305 else if i = 1 then 306 else 38) (pcomes_ok ⟨b, l, f1, m⟩ os [] ms hqB (by omega) (by decide) he hms) (gj ?_) (gj ?_) (gj ?_) (gj ?_) (gj ?_) ?_
        · first | trivial | exact ⟨rfl, rfl⟩ | exact ⟨rfl, rfl, rfl⟩ | exact le_refl _
        · first | trivial | exact ⟨rfl, rfl⟩ | exact ⟨rfl, rfl, rfl⟩ | exact le_refl _
        · first | trivial | exact ⟨rfl, rfl⟩ | exact ⟨rfl, rfl, rfl⟩ | exact le_refl _
        · first | trivial | exact ⟨rfl, rfl⟩ | exact ⟨rfl, rfl, rfl⟩ | exact le_refl _
        · first | trivial | exact ⟨rfl, rfl⟩ | exact ⟨rfl, rfl, rfl⟩ | exact le_refl _
        refine gj ?_
        have hom := pcomesM_len ⟨b, l, f1, m⟩ ms os []
        dsimp only at hom
        generalize pcomesM ⟨b, l, f1, m⟩ ms os [] = c at hr hom ⊢
        obtain ⟨ce, cz, cm⟩ := c
        dsimp only at hr hom ⊢
        simp only [List.length_nil, Nat.zero_add] at hom
        refine br (fun hz => ?_) (fun hz => ?_)
        · rw [if_pos hz] at hr
          subst hr
          try refine gj ?_
          exact nb_le
        · rw [if_neg hz] at hr
          try refine gj ?_
          have hdl := (dirs_good hok).2
          have hrf : ∀ d ∈ b.dirs, (0 : Int) ≤ d.refs ∧ d.refs ≤ 1000000 := fun d hd => by have := ((dirs_good hok).1 d hd).2; omega
          refine ct_hd [4, 6, 9] [4, 6, 9, 305, 306] (fun u : Unit => [(13, .p 38 0), (15, .ow 306 cm.length)]) (fun u : Unit => [(38, .cells 65 [.sl 5 Man dMn b.packs eMan, .sl 3 Shr dS b.dirs eShr, .sl 8 Stt dT l eStt, .s f1.name, .s f1.ver, .sl 3 Rul dR f1.needs eRul, .sl 3 Rul dR f1.clashes eRul, .sl 5 Ent dE f1.ents eEnt, .s m.name, .s m.ver, .sl 3 Rul dR m.needs eRul, .sl 3 Rul dR m.clashes eRul, .sl 5 Ent dE m.ents eEnt, .ow 305 cz.length, .j])]) (fun u : Unit => True) (gj ?_) ?_
          · refine wk_jB 38 14 (T := 65) (l := [.sl 5 Man dMn b.packs eMan, .sl 3 Shr dS b.dirs eShr, .sl 8 Stt dT l eStt, .s f1.name, .s f1.ver, .sl 3 Rul dR f1.needs eRul, .sl 3 Rul dR f1.clashes eRul, .sl 5 Ent dE f1.ents eEnt, .s m.name, .s m.ver, .sl 3 Rul dR m.needs eRul, .sl 3 Rul dR m.clashes eRul, .sl 5 Ent dE m.ents eEnt, .ow 305 cz.length, .ow 306 cm.length]) [.sl 5 Man dMn b.packs eMan, .sl 3 Shr dS b.dirs eShr, .sl 8 Stt dT l eStt, .s f1.name, .s f1.ver, .sl 3 Rul dR f1.needs eRul, .sl 3 Rul dR f1.clashes eRul, .sl 5 Ent dE f1.ents eEnt, .s m.name, .s m.ver, .sl 3 Rul dR m.needs eRul, .sl 3 Rul dR m.clashes eRul, .sl 5 Ent dE m.ents eEnt, .ow 305 cz.length, .j] (gj ?_) rfl ?_
            · trivial
            refine wk_fit (()) (id) (trivial) (fits_of (gj ?_) (gj ?_) (gj ?_) (gj ?_) (gj ?_))
            · first | exact True.intro | exact ⟨rfl, rfl⟩ | exact ⟨rfl, rfl, rfl⟩ | rfl | exact rowc (List.map_id _) | trivial
            · first | exact True.intro | exact ⟨rfl, rfl⟩ | exact ⟨rfl, rfl, rfl⟩ | rfl | exact rowc (List.map_id _) | trivial
            · first | exact True.intro | exact ⟨rfl, rfl⟩ | exact ⟨rfl, rfl, rfl⟩ | rfl | exact rowc (List.map_id _) | trivial
            · first | exact True.intro | exact ⟨rfl, rfl⟩ | exact ⟨rfl, rfl, rfl⟩ | rfl | exact rowc (List.map_id _) | trivial
            · first | exact True.intro | exact ⟨rfl, rfl⟩ | exact ⟨rfl, rfl, rfl⟩ | rfl | exact rowc (List.map_id _) | trivial
          · rintro u -
            try refine gj ?_
            refine ct_hd [4, 6, 9] [4, 6, 9, 305] (fun u : Unit => [(13, .p 38 0), (15, .sl 1 (List UInt8) [] (cm ++ madeL b.dirs) .s)]) (fun u : Unit => [(38, .cells 65 [.sl 5 Man dMn b.packs eMan, .sl 3 Shr dS b.dirs eShr, .sl 8 Stt dT l eStt, .s f1.name, .s f1.ver, .sl 3 Rul dR f1.needs eRul, .sl 3 Rul dR f1.clashes eRul, .sl 5 Ent dE f1.ents eEnt, .s m.name, .s m.ver, .sl 3 Rul dR m.needs eRul, .sl 3 Rul dR m.clashes eRul, .sl 5 Ent dE m.ents eEnt, .ow 305 cz.length, .j])]) (fun u : Unit => True) (gj ?_) ?_
            · refine lp_hr [4, 6, 9, 13, 57, 58] [4, 6, 9, 38, 305] (fun z : Nat × List (List UInt8) => [(15, .ow 600 z.2.length), (59, .n .i64 (z.1 : Int))]) (fun z : Nat × List (List UInt8) => [(600, rS z.2)]) (fun z : Nat × List (List UInt8) => z.1 ≤ b.dirs.length ∧ z.2.length ≤ cm.length + z.1 ∧ cm ++ madeL b.dirs = z.2 ++ madeL (b.dirs.drop z.1)) (fun z : Nat × List (List UInt8) => b.dirs.length - z.1) ((0, cm)) (fun i => if i = 600 then 306 else i) ⟨Nat.zero_le _, Nat.le_refl _, rfl⟩ (fits_of (gj ?_) (gj ?_) (gj ?_) (gj ?_) (gj ?_)) ?_
              · first | exact True.intro | exact ⟨rfl, rfl⟩ | exact ⟨rfl, rfl, rfl⟩ | rfl | exact rowc (List.map_id _) | trivial
              · first | exact True.intro | exact ⟨rfl, rfl⟩ | exact ⟨rfl, rfl, rfl⟩ | rfl | exact rowc (List.map_id _) | trivial
              · first | exact True.intro | exact ⟨rfl, rfl⟩ | exact ⟨rfl, rfl, rfl⟩ | rfl | exact rowc (List.map_id _) | trivial
              · first | exact True.intro | exact ⟨rfl, rfl⟩ | exact ⟨rfl, rfl, rfl⟩ | rfl | exact rowc (List.map_id _) | trivial
              · first | exact True.intro | exact ⟨rfl, rfl⟩ | exact ⟨rfl, rfl, rfl⟩ | rfl | exact rowc (List.map_id _) | trivial
              rintro ⟨i, s'⟩ ⟨hi, h1, h2⟩
              dsimp only at hi h1 h2 ⊢
              try refine gj ?_
              refine br (fun e => ?_) (fun e => ?_)
              · rw [drop_at b.dirs i dS (by omega)] at h2
                try refine gj ?_
                generalize b.dirs.getD i dS = x at h2
                refine br (fun mm => ?_) (fun mm => ?_)
                · have h3 : madeL (x :: b.dirs.drop (i + 1)) = x.path :: madeL (b.dirs.drop (i + 1)) := by unfold madeL; rw [List.filter_cons_of_pos mm, List.map_cons]
                  rw [h3] at h2
                  try refine gj ?_
                  refine .inr ?_
                  try refine gj ?_
                  refine ⟨(i + 1, s' ++ [x.path]), (fun i => if i = 600 then 69 else i), ⟨by dsimp only; omega, by dsimp only; rw [List.length_append, List.length_singleton]; omega, by dsimp only; rw [h2, List.append_assoc, List.singleton_append]⟩, (by dsimp only; omega), fits_of (gj ?_) (gj ?_) (gj ?_) (gj ?_) (gj ?_)⟩
                  · first | exact True.intro | exact ⟨rfl, rfl⟩ | exact ⟨rfl, rfl, rfl⟩ | rfl | exact rowc (List.map_id _) | trivial
                  · first | exact True.intro | exact ⟨rfl, rfl⟩ | exact ⟨rfl, rfl, rfl⟩ | rfl | exact rowc (List.map_id _) | trivial
                  · first | exact True.intro | exact ⟨rfl, rfl⟩ | exact ⟨rfl, rfl, rfl⟩ | rfl | exact rowc (List.map_id _) | trivial
                  · (first | trivial | exact ⟨rfl, rfl⟩ | exact ⟨rfl, rfl, rfl⟩ | simp)
                  · first | exact True.intro | exact ⟨rfl, rfl⟩ | exact ⟨rfl, rfl, rfl⟩ | rfl | exact rowc (List.map_id _) | trivial
                · have h3 : madeL (x :: b.dirs.drop (i + 1)) = madeL (b.dirs.drop (i + 1)) := by unfold madeL; rw [List.filter_cons_of_neg mm]
                  rw [h3] at h2
                  try refine gj ?_
                  refine ⟨(i + 1, s'), id, ⟨by dsimp only; omega, by dsimp only; omega, h2⟩, (by dsimp only; omega), fits_of (gj ?_) (gj ?_) (gj ?_) (gj ?_) (gj ?_)⟩
                  · first | exact True.intro | exact ⟨rfl, rfl⟩ | exact ⟨rfl, rfl, rfl⟩ | rfl | exact rowc (List.map_id _) | trivial
                  · first | exact True.intro | exact ⟨rfl, rfl⟩ | exact ⟨rfl, rfl, rfl⟩ | rfl | exact rowc (List.map_id _) | trivial
                  · first | exact True.intro | exact ⟨rfl, rfl⟩ | exact ⟨rfl, rfl, rfl⟩ | rfl | exact rowc (List.map_id _) | trivial
                  · (first | trivial | exact ⟨rfl, rfl⟩ | exact ⟨rfl, rfl, rfl⟩ | simp)
                  · first | exact True.intro | exact ⟨rfl, rfl⟩ | exact ⟨rfl, rfl, rfl⟩ | rfl | exact rowc (List.map_id _) | trivial
              · rw [List.drop_eq_nil_of_le (by omega), show madeL [] = [] from rfl, List.append_nil] at h2
                rw [h2]
                try refine gj ?_
                refine wk_fz [600] ?_
                refine wk_fit (()) (id) (trivial) (fits_of (gj ?_) (gj ?_) (gj ?_) (gj ?_) (gj ?_))
                · first | exact True.intro | exact ⟨rfl, rfl⟩ | exact ⟨rfl, rfl, rfl⟩ | rfl | exact rowc (List.map_id _) | trivial
                · first | exact True.intro | exact ⟨rfl, rfl⟩ | exact ⟨rfl, rfl, rfl⟩ | rfl | exact rowc (List.map_id _) | trivial
                · first | exact True.intro | exact ⟨rfl, rfl⟩ | exact ⟨rfl, rfl, rfl⟩ | rfl | exact rowc (List.map_id _) | trivial
                · first | exact True.intro | exact ⟨rfl, rfl⟩ | exact ⟨rfl, rfl, rfl⟩ | rfl | exact rowc (List.map_id _) | trivial
                · first | exact True.intro | exact ⟨rfl, rfl⟩ | exact ⟨rfl, rfl, rfl⟩ | rfl | exact rowc (List.map_id _) | trivial
            · rintro u -
              try refine gj ?_
              refine cd (owithout_ok b m.name hb (fun d hd => by have := hrf d hd; omega)) ?_
              refine gj ?_
              have hwb := without_big (w := m.name) hb
              have hwr := without_refs (w := m.name) hrf
              have hwl : (withoutB b m.name).packs.length ≤ b.packs.length := List.length_filter_le _ _
              have hwd : (withoutB b m.name).dirs.length ≤ b.dirs.length := List.length_filterMap_le _ _
              have hlen := hok.len
              have hml : (cm ++ madeL b.dirs).length ≤ 10000 := by
                have h4 : (madeL b.dirs).length ≤ b.dirs.length := by unfold madeL; rw [List.length_map]; exact List.length_filter_le _ _
                rw [List.length_append]
                omega
              refine cd (oadd_ok (withoutB b m.name) m (cm ++ madeL b.dirs) (by omega) (by omega) he (fun x hx => (hwb.m x hx).2) hm.2 (by omega) fun d hd => by have := hwr d hd; omega) ?_
              refine gj ?_
              have hcb : (addB (withoutB b m.name) m (fun p => decide (p ∈ cm ++ madeL b.dirs))).Big := add_big hwb (by omega) (by omega) hm he (fun x hx => (hm.1.es x hx).1)
              generalize addB (withoutB b m.name) m (fun p => decide (p ∈ cm ++ madeL b.dirs)) = c at hr hcb ⊢
              refine ct_hd [9, 18] [9, 18] (fun u : Unit => [(13, .p 38 0)]) (fun u : Unit => [(38, .cells 65 [.sl 5 Man dMn b.packs eMan, .sl 3 Shr dS b.dirs eShr, .sl 8 Stt dT l eStt, .s f1.name, .s f1.ver, .sl 3 Rul dR f1.needs eRul, .sl 3 Rul dR f1.clashes eRul, .sl 5 Ent dE f1.ents eEnt, .s m.name, .s m.ver, .sl 3 Rul dR m.needs eRul, .sl 3 Rul dR m.clashes eRul, .sl 5 Ent dE m.ents eEnt, .sl 8 Stp dP (emptM c b.dirs.reverse cz) eStp, .j])]) (fun u : Unit => True) (gj ?_) ?_
              · refine cp (fun i => if i = 0 then 305 else 38) (fun i => if i = 0 then 307 else 38) (pempt_ok ⟨b, l, f1, m⟩ cz c hcb (by omega) (by dsimp only; omega)) (gj ?_) (gj ?_) (gj ?_) (gj ?_) (gj ?_) ?_
                · first | trivial | exact ⟨rfl, rfl⟩ | exact ⟨rfl, rfl, rfl⟩ | exact le_refl _
                · first | trivial | exact ⟨rfl, rfl⟩ | exact ⟨rfl, rfl, rfl⟩ | exact le_refl _
                · first | trivial | exact ⟨rfl, rfl⟩ | exact ⟨rfl, rfl, rfl⟩ | exact le_refl _
                · first | trivial | exact ⟨rfl, rfl⟩ | exact ⟨rfl, rfl, rfl⟩ | exact le_refl _
                · first | trivial | exact ⟨rfl, rfl⟩ | exact ⟨rfl, rfl, rfl⟩ | exact le_refl _
                refine gj ?_
                refine wk_fz [307] ?_
                refine wk_fit (()) (id) (trivial) (fits_of (gj ?_) (gj ?_) (gj ?_) (gj ?_) (gj ?_))
                · first | exact True.intro | exact ⟨rfl, rfl⟩ | exact ⟨rfl, rfl, rfl⟩ | rfl | exact rowc (List.map_id _) | trivial
                · first | exact True.intro | exact ⟨rfl, rfl⟩ | exact ⟨rfl, rfl, rfl⟩ | rfl | exact rowc (List.map_id _) | trivial
                · first | exact True.intro | exact ⟨rfl, rfl⟩ | exact ⟨rfl, rfl, rfl⟩ | rfl | exact rowc (List.map_id _) | trivial
                · first | exact True.intro | exact ⟨rfl, rfl⟩ | exact ⟨rfl, rfl, rfl⟩ | rfl | exact rowc (List.map_id _) | trivial
                · first | exact True.intro | exact ⟨rfl, rfl⟩ | exact ⟨rfl, rfl, rfl⟩ | rfl | exact rowc (List.map_id _) | trivial
              · rintro u -
                subst hr
                try refine gj ?_

                trivial
end Go.Proofs.YtjbnmeofjiokeaaGreatDoor.Ev
