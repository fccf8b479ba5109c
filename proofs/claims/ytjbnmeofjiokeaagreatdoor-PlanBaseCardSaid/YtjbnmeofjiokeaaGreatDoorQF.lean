/- Plans: how a package comes. -/
import Derived.Test.YtjbnmeofjiokeaaGreatDoorQE
import Derived.Test.YtjbnmeofjiokeaaGreatDoorQB
import Derived.Test.YtjbnmeofjiokeaaGreatDoorPE
import Derived.Test.YtjbnmeofjiokeaaGreatDoorQD
set_option linter.all false
namespace Go.Proofs.YtjbnmeofjiokeaaGreatDoor.Ev
open Go.RowKit
open Go.Proofs.YtjbnmeofjiokeaaGreatDoor.Mem
set_option linter.unusedVariables false
set_option linter.unusedSimpArgs false
set_option maxRecDepth 100000
theorem wk_fz {J : St → Prop} {σ : St} (ids : List Nat) (hJ : Wk J (σ.fz ids)) : Wk J σ := fun w0 S m a W ⟨G, F, hR⟩ => hJ w0 S m a W ⟨G, _, hR.fz ids⟩
theorem nb_le : le (V.ag [.nl, .nl]) (V.ag [.sl 5 Man dMn [] eMan, .sl 3 Shr dS [] eShr]) := ⟨le_nl, le_nl, trivial⟩
theorem cpP {P : Program} {L : World → Prop} {f d : Nat} {av bs : List V} {r : V} {B B' : List (Nat × Bk)} {σ : St} {k : St → Prop} (ρ ρ' : Nat → Nat) (h : SpecP P L f bs B r B') (hle : leL av (rnL ρ bs)) (h1 : allP (fun p => σ.bk (ρ p.1) = some (rnB ρ p.2)) B) (h2 : allP (fun p => allP (fun q => ρ p.1 = ρ q.1 → p.1 = q.1) B) B)
    (h3 : allP (fun p => bif decide (1000000000 ≤ p.1) then ρ' p.1 = ρ p.1 else σ.al (ρ' p.1) = false ∧ ρ' p.1 < 1000000000) B') (h4 : allP (fun p => allP (fun q => ρ' p.1 = ρ' q.1 → p.1 = q.1) B') B') (hk : k (σ.giv d r B B' ρ ρ')) :
    xCall P L f d av σ k ∨ xCallP P L f d av σ k := by
  refine .inr ⟨bs, B, r, B', ρ, ρ', hle, allP_mem h1, fun p hp q hq => allP_mem (allP_mem h2 p hp) q hq, h, fun p hp => ?_, fun p hp q hq => allP_mem (allP_mem h4 p hp) q hq, hk⟩
  have := allP_mem h3 p hp
  by_cases e : 1000000000 ≤ p.1
  · rw [decide_eq_true e] at this
    rw [if_pos e]
    exact this
  · rw [decide_eq_false e] at this
    rw [if_neg e]
    exact this
theorem pent_len (q : Mak) (x : Ent) (m : Mbr) (s : List Stp) (md : List (List UInt8)) : (pentM q x m s md).2.1.length ≤ s.length + 2 ∧ (pentM q x m s md).2.2.length ≤ md.length + 1 := by
  unfold pentM
  split
  · exact pdir_len q x m s md
  · exact ⟨pthing_len q x m s, Nat.le_succ _⟩
theorem pcomesL_len (q : Mak) (ms : List Mbr) : ∀ (E : List Ent) (i : Nat) (s : List Stp) (md : List (List UInt8)), (pcomesL q ms E i s md).2.1.length ≤ s.length + 2 * E.length ∧ (pcomesL q ms E i s md).2.2.length ≤ md.length + E.length
  | [], i, s, md => ⟨Nat.le_add_right _ _, Nat.le_add_right _ _⟩
  | x :: r, i, s, md => by
    unfold pcomesL
    have h1 := pent_len q x (ms.getD i dMb) s md
    split
    · have h2 := pcomesL_len q ms r (i + 1) (pentM q x (ms.getD i dMb) s md).2.1 (pentM q x (ms.getD i dMb) s md).2.2
      simp only [List.length_cons]
      omega
    · simp only [List.length_cons]
      omega
theorem pcomesM_len (q : Mak) (ms : List Mbr) (s : List Stp) (md : List (List UInt8)) : (pcomesM q ms s md).2.1.length ≤ s.length + 2 * q.next.ents.length ∧ (pcomesM q ms s md).2.2.length ≤ md.length + q.next.ents.length := by
  unfold pcomesM
  split
  · exact ⟨Nat.le_add_right _ _, Nat.le_add_right _ _⟩
  · exact pcomesL_len q ms _ 0 s md
def hSt : Elp := ⟨8, Stp, dP, eStp, cStp⟩
open Classical in
set_option maxHeartbeats 4000000 in
theorem install_ok (b : Bas) (l : List Stt) (m : Man) (ms : List Mbr) (hb : b.Big) (hl : l.length ≤ 100000000000000) (hld : ∀ s ∈ l, s.data.length ≤ 140737488355328) (hm : m.Fit ∧ m.Big) (he : m.ents.length ≤ 1000) (hms : ms.length ≤ 100000000000000) : Spec Tryz.prog LL 9 [eBas b, .sl 8 Stt dT l eStt, eMan m, .sl 8 Mbr dMb ms eMbr] (.tp [.sl 8 Stp dP (installM b l m ms).1 eStp, eBas (installM b l m ms).2.1, .n .i64 (installM b l m ms).2.2]) := by
  refine spec_of (C := ⟨Tryz.prog, LL, EE, [12]⟩) (rl := [.sl 8 Stp dP (installM b l m ms).1 eStp, eBas (installM b l m ms).2.1, .n .i64 (installM b l m ms).2.2]) (rs := [.tmp 8, .cell 9 25, .tmp 10]) CCx LLs Tryz.func9 rfl (by kernel_rfl) rfl (by kernel_rfl) (Nat.le_of_ble_eq_true rfl) (fun i => rfl) (fun i => by first | rfl | exact (Bool.or_false _).trans (eSd_men _ _)) rfl (by decide) ?_
  refine gp ?_
  obtain ⟨r, hr⟩ : ∃ r, r = installM b l m ms := ⟨_, rfl⟩
  rw [← hr]
  unfold installM at hr
  refine cl (ocheck_ok b hb) ?_
  refine gp ?_
  refine br (fun hok => ?_) (fun hok => ?_)
  · rw [if_pos hok] at hr
    subst hr
    try refine gp ?_
    exact nb_le
  · have hok := Decidable.not_not.1 hok
    rw [if_neg (fun h => h hok)] at hr
    try refine gp ?_
    refine cl (find_ok b m.name hb) ?_
    refine gp ?_
    generalize findM b.packs m.name = fm at hr ⊢
    obtain ⟨f1, f2⟩ := fm
    dsimp only at hr ⊢
    cases f2 with
    | true =>
      rw [if_pos rfl] at hr
      subst hr
      try refine gp ?_
      exact nb_le
    | false =>
      rw [if_neg (by simp)] at hr
      try refine gp ?_
      refine br (fun h32 => ?_) (fun h32 => ?_)
      · rw [if_pos (by omega)] at hr
        subst hr
        try refine gp ?_
        exact nb_le
      · rw [if_neg (by omega)] at hr
        try refine gp ?_
        obtain ⟨q, hq⟩ : ∃ q : Mak, q = ⟨b, l, dMn, m⟩ := ⟨_, rfl⟩
        rw [← hq] at hr
        have hqB : q.Big := by subst hq; exact ⟨hb, hl, hld, Nat.zero_le _, by dsimp only; omega, fun x hx => by simp [dMn] at hx, fun x hx => (hm.1.es x hx).1⟩
        have hqn : q.next.ents.length ≤ 1000 := by subst hq; exact he
        refine cw ?_
        refine wk_nilc 37 65 [.sl 5 Man dMn b.packs eMan, .sl 3 Shr dS b.dirs eShr, .sl 8 Stt dT l eStt, .s [], .s [], .nl, .nl, .nl, .s m.name, .s m.ver, .sl 3 Rul dR m.needs eRul, .sl 3 Rul dR m.clashes eRul, .sl 5 Ent dE m.ents eEnt, .nl, .nl] 13 301 46 hSt (gp ?_) (gp ?_) (gp ?_) ?_
        · trivial
        · trivial
        · trivial
        refine wk_nilc 37 65 [.sl 5 Man dMn b.packs eMan, .sl 3 Shr dS b.dirs eShr, .sl 8 Stt dT l eStt, .s [], .s [], .nl, .nl, .nl, .s m.name, .s m.ver, .sl 3 Rul dR m.needs eRul, .sl 3 Rul dR m.clashes eRul, .sl 5 Ent dE m.ents eEnt, .ow 301 0, .nl] 14 302 9 hS (gp ?_) (gp ?_) (gp ?_) ?_
        · trivial
        · trivial
        · trivial
        refine wk_leB 37 (l := [.sl 5 Man dMn b.packs eMan, .sl 3 Shr dS b.dirs eShr, .sl 8 Stt dT l eStt, .s [], .s [], .nl, .nl, .nl, .s m.name, .s m.ver, .sl 3 Rul dR m.needs eRul, .sl 3 Rul dR m.clashes eRul, .sl 5 Ent dE m.ents eEnt, .ow 301 0, .ow 302 0]) [.sl 5 Man dMn b.packs eMan, .sl 3 Shr dS b.dirs eShr, .sl 8 Stt dT l eStt, .s [], .s [], .sl 3 Rul dR [] eRul, .sl 3 Rul dR [] eRul, .sl 5 Ent dE [] eEnt, .s m.name, .s m.ver, .sl 3 Rul dR m.needs eRul, .sl 3 Rul dR m.clashes eRul, .sl 5 Ent dE m.ents eEnt, .ow 301 0, .ow 302 0] rfl ?_ ?_ ?_
        · repeat' apply And.intro
          all_goals first | exact le_refl _ | exact le_nl | trivial
        · intro k
          simp [menL, men]
        refine wk_now ?_
        refine cpP (fun i => if i = 0 then 301 else if i = 1 then 302 else 37) (fun i => if i = 0 then 303 else if i = 1 then 304 else 37) (pcomes_ok q [] [] ms hqB (by decide) (by decide) hqn hms) (gp ?_) (gp ?_) (gp ?_) (gp ?_) (gp ?_) ?_
        · trivial
        · subst hq
          exact ⟨rfl, rfl, rfl⟩
        · trivial
        · trivial
        · trivial
        have hom := (pcomesM_len q ms [] []).2
        generalize pcomesM q ms [] [] = o at hr hom ⊢
        obtain ⟨oe, os, om⟩ := o
        dsimp only at hr hom ⊢
        have hom2 : om.length ≤ 1000 := by simp at hom; omega
        subst hq
        try refine gp ?_
        refine ct_hd [4, 6, 9] [4, 6, 9] (fun u : Unit => [(13, .p 37 0)]) (fun u : Unit => [(37, .cells 65 [.sl 5 Man dMn b.packs eMan, .sl 3 Shr dS b.dirs eShr, .sl 8 Stt dT l eStt, .s [], .s [], .sl 3 Rul dR [] eRul, .sl 3 Rul dR [] eRul, .sl 5 Ent dE [] eEnt, .s m.name, .s m.ver, .sl 3 Rul dR m.needs eRul, .sl 3 Rul dR m.clashes eRul, .sl 5 Ent dE m.ents eEnt, .sl 8 Stp dP os eStp, .sl 1 (List UInt8) [] om .s])]) (fun u : Unit => oe = 0) (gp ?_) ?_
        · refine br (fun er => ?_) (fun er => ?_)
          · rw [if_pos er] at hr
            subst hr
            try refine gp ?_
            exact nb_le
          · refine wk_fz [303, 304] ?_
            refine wk_fit (()) (id) ((Decidable.not_not.1 er)) (fits_of (gp ?_) (gp ?_) (gp ?_) (gp ?_) (gp ?_))
            · first | exact True.intro | exact ⟨rfl, rfl⟩ | exact ⟨rfl, rfl, rfl⟩ | rfl | exact rowc (List.map_id _) | trivial
            · first | exact True.intro | exact ⟨rfl, rfl⟩ | exact ⟨rfl, rfl, rfl⟩ | rfl | exact rowc (List.map_id _) | trivial
            · first | exact True.intro | exact ⟨rfl, rfl⟩ | exact ⟨rfl, rfl, rfl⟩ | rfl | exact rowc (List.map_id _) | trivial
            · first | exact True.intro | exact ⟨rfl, rfl⟩ | exact ⟨rfl, rfl, rfl⟩ | rfl | exact rowc (List.map_id _) | trivial
            · first | exact True.intro | exact ⟨rfl, rfl⟩ | exact ⟨rfl, rfl, rfl⟩ | rfl | exact rowc (List.map_id _) | trivial
        · rintro u er
          rw [if_neg (fun h => h er)] at hr
          subst hr
          try refine gp ?_
          have hlen := hok.len
          have hdl := (dirs_good hok).2
          have hrf : ∀ d ∈ b.dirs, (0 : Int) ≤ d.refs ∧ d.refs ≤ 1000000 := fun d hd => by have := ((dirs_good hok).1 d hd).2; omega
          refine cd (oadd_ok b m om (by omega) (by omega) he (fun x hx => (hb.m x hx).2) hm.2 (by omega) fun d hd => by have := hrf d hd; omega) ?_
          refine gp ?_
          trace_state
          trivial
end Go.Proofs.YtjbnmeofjiokeaaGreatDoor.Ev
namespace Go.Proofs.YtjbnmeofjiokeaaGreatDoor.Ev
open Go.RowKit
open Go.Proofs.YtjbnmeofjiokeaaGreatDoor.Mem
set_option linter.unusedVariables false
set_option linter.unusedSimpArgs false
set_option maxRecDepth 100000
def pgoesL (q : Mak) : List Ent → List Stp → Int × List Stp
  | [], s => (0, s)
  | x :: r, s => if (hasM q.next.ents x.path).2 = true ∨ x.kind = 2 then pgoesL q r s
    else if ¬ (atM q.tree x.path).2 = true ∨ (atM q.tree x.path).1.kind = 2 then pgoesL q r s
    else if chgM x (atM q.tree x.path).1 = false then pgoesL q r (s ++ [cutS x.path])
    else if ¬ (saveM q s x.path).1 = 0 then saveM q s x.path else pgoesL q r (saveM q s x.path).2
theorem atM_in {l : List Stt} {w : List UInt8} (h : (atM l w).2 = true) : (atM l w).1 ∈ l ∧ (atM l w).1.path = w := by
  induction l with
  | nil => simp [atM] at h
  | cons s r ih =>
    unfold atM at h ⊢
    split at h
    · rename_i e; rw [if_pos e]; exact ⟨by simp, e⟩
    · rename_i e; rw [if_neg e]; obtain ⟨h1, h2⟩ := ih h; exact ⟨by simp [h1], h2⟩
theorem saveM_len (q : Mak) (s : List Stp) (w : List UInt8) : (saveM q s w).2.length ≤ s.length + 2 := by
  unfold saveM
  repeat' split
  all_goals simp
set_option maxHeartbeats 4000000 in
theorem pgoes_ok (q : Mak) (s : List Stp) (md : List (List UInt8)) (hq : q.Big) (hl : s.length ≤ 1000) (ho : q.old.ents.length ≤ 1000) : SpecP Tryz.prog LL 22 [.p 1000000000 0] [(1000000000, bkQ q 0 s.length 1 md.length), (0, rP s), (1, rS md)] (.n .i64 (pgoesL q q.old.ents s).1) [(1000000000, bkQ q 0 (pgoesL q q.old.ents s).2.length 1 md.length), (0, rP (pgoesL q q.old.ents s).2), (1, rS md)] := by
  refine spec_ofP' (C := ⟨Tryz.prog, LL, EE, []⟩) (rl := [.n .i64 (pgoesL q q.old.ents s).1]) (rs := [.tmp 2]) CCx LLs Tryz.func22 rfl (by kernel_rfl) rfl (by kernel_rfl) (Nat.le_of_ble_eq_true rfl) rfl rfl rfl rfl rfl rfl rfl rfl (by decide) ?_
  refine gp ?_
  have hqn := hq.n
  have hqt := hq.t
  have hqp := hq.op
  have htd := hq.td
  obtain ⟨r, hr⟩ : ∃ r, r = pgoesL q q.old.ents s := ⟨_, rfl⟩
  rw [← hr]
  refine lp_hr [14, 15] [] (fun z : Nat × List Stp => [(0, .p 1000000000 0), (16, .n .i64 (z.1 : Int))]) (fun z : Nat × List Stp => [(1000000000, bkQ q 0 z.2.length 1 md.length), (0, rP z.2), (1, rS md)]) (fun z : Nat × List Stp => z.1 ≤ q.old.ents.length ∧ z.2.length ≤ s.length + 2 * z.1 ∧ r = pgoesL q (q.old.ents.drop z.1) z.2) (fun z : Nat × List Stp => q.old.ents.length - z.1) ((0, s)) id ⟨Nat.zero_le _, Nat.le_refl _, hr⟩ (fits_of (gp ?_) (gp ?_) (gp ?_) (gp ?_) (gp ?_)) ?_
  · first | exact True.intro | exact ⟨rfl, rfl⟩ | exact ⟨rfl, rfl, rfl⟩ | rfl | exact rowc (List.map_id _) | trivial
  · first | exact True.intro | exact ⟨rfl, rfl⟩ | exact ⟨rfl, rfl, rfl⟩ | rfl | exact rowc (List.map_id _) | trivial
  · first | exact True.intro | exact ⟨rfl, rfl⟩ | exact ⟨rfl, rfl, rfl⟩ | rfl | exact rowc (List.map_id _) | trivial
  · first | exact True.intro | exact ⟨rfl, rfl⟩ | exact ⟨rfl, rfl, rfl⟩ | rfl | exact rowc (List.map_id _) | trivial
  · first | exact True.intro | exact ⟨rfl, rfl⟩ | exact ⟨rfl, rfl, rfl⟩ | rfl | exact rowc (List.map_id _) | trivial
  rintro ⟨i, s'⟩ ⟨hi, h1, hr⟩
  dsimp only at hi h1 hr ⊢
  try refine gp ?_
  refine br (fun e => ?_) (fun e => ?_)
  · have hx := hqp _ (getD_mem (x := dE) (show i < q.old.ents.length by omega))
    rw [drop_at q.old.ents i dE (by omega), pgoesL] at hr
    try refine gp ?_
    generalize q.old.ents.getD i dE = x at hx hr
    refine cd (has_ok q.next x.path hqn) ?_
    refine gp ?_
    generalize hasM q.next.ents x.path = h at hr ⊢
    obtain ⟨h1', h2⟩ := h
    dsimp only at hr ⊢
    cases h2 with
    | true =>
      rw [if_pos (.inl rfl)] at hr
      try refine gp ?_
      refine ⟨(i + 1, s'), id, ⟨by dsimp only; omega, by dsimp only; omega, hr⟩, (by dsimp only; omega), fits_of (gp ?_) (gp ?_) (gp ?_) (gp ?_) (gp ?_)⟩
      · first | exact True.intro | exact ⟨rfl, rfl⟩ | exact ⟨rfl, rfl, rfl⟩ | rfl | exact rowc (List.map_id _) | trivial
      · first | exact True.intro | exact ⟨rfl, rfl⟩ | exact ⟨rfl, rfl, rfl⟩ | rfl | exact rowc (List.map_id _) | trivial
      · first | exact True.intro | exact ⟨rfl, rfl⟩ | exact ⟨rfl, rfl, rfl⟩ | rfl | exact rowc (List.map_id _) | trivial
      · (first | trivial | exact ⟨rfl, rfl⟩ | exact ⟨rfl, rfl, rfl⟩ | simp)
      · first | exact True.intro | exact ⟨rfl, rfl⟩ | exact ⟨rfl, rfl, rfl⟩ | rfl | exact rowc (List.map_id _) | trivial
    | false =>
      try refine gp ?_
      refine br (fun kd => ?_) (fun kd => ?_)
      · rw [if_pos (.inr kd)] at hr
        try refine gp ?_
        refine ⟨(i + 1, s'), id, ⟨by dsimp only; omega, by dsimp only; omega, hr⟩, (by dsimp only; omega), fits_of (gp ?_) (gp ?_) (gp ?_) (gp ?_) (gp ?_)⟩
        · first | exact True.intro | exact ⟨rfl, rfl⟩ | exact ⟨rfl, rfl, rfl⟩ | rfl | exact rowc (List.map_id _) | trivial
        · first | exact True.intro | exact ⟨rfl, rfl⟩ | exact ⟨rfl, rfl, rfl⟩ | rfl | exact rowc (List.map_id _) | trivial
        · first | exact True.intro | exact ⟨rfl, rfl⟩ | exact ⟨rfl, rfl, rfl⟩ | rfl | exact rowc (List.map_id _) | trivial
        · (first | trivial | exact ⟨rfl, rfl⟩ | exact ⟨rfl, rfl, rfl⟩ | simp)
        · first | exact True.intro | exact ⟨rfl, rfl⟩ | exact ⟨rfl, rfl, rfl⟩ | rfl | exact rowc (List.map_id _) | trivial
      · rw [if_neg (by rintro (h | h) <;> simp_all)] at hr
        try refine gp ?_
        refine cd (at_ok q.tree x.path hqt) ?_
        refine gp ?_
        have ht0 : (atM q.tree x.path).2 = true → (atM q.tree x.path).1.data.length ≤ 140737488355328 := fun h => htd _ (atM_in h).1
        generalize atM q.tree x.path = t at hr ht0 ⊢
        obtain ⟨t1, t2⟩ := t
        dsimp only at hr ht0 ⊢
        cases t2 with
        | false =>
          rw [if_pos (.inl (by simp))] at hr
          try refine gp ?_
          refine ⟨(i + 1, s'), id, ⟨by dsimp only; omega, by dsimp only; omega, hr⟩, (by dsimp only; omega), fits_of (gp ?_) (gp ?_) (gp ?_) (gp ?_) (gp ?_)⟩
          · first | exact True.intro | exact ⟨rfl, rfl⟩ | exact ⟨rfl, rfl, rfl⟩ | rfl | exact rowc (List.map_id _) | trivial
          · first | exact True.intro | exact ⟨rfl, rfl⟩ | exact ⟨rfl, rfl, rfl⟩ | rfl | exact rowc (List.map_id _) | trivial
          · first | exact True.intro | exact ⟨rfl, rfl⟩ | exact ⟨rfl, rfl, rfl⟩ | rfl | exact rowc (List.map_id _) | trivial
          · (first | trivial | exact ⟨rfl, rfl⟩ | exact ⟨rfl, rfl, rfl⟩ | simp)
          · first | exact True.intro | exact ⟨rfl, rfl⟩ | exact ⟨rfl, rfl, rfl⟩ | rfl | exact rowc (List.map_id _) | trivial
        | true =>
          try refine gp ?_
          refine br (fun k2 => ?_) (fun k2 => ?_)
          · rw [if_pos (.inr k2)] at hr
            try refine gp ?_
            refine ⟨(i + 1, s'), id, ⟨by dsimp only; omega, by dsimp only; omega, hr⟩, (by dsimp only; omega), fits_of (gp ?_) (gp ?_) (gp ?_) (gp ?_) (gp ?_)⟩
            · first | exact True.intro | exact ⟨rfl, rfl⟩ | exact ⟨rfl, rfl, rfl⟩ | rfl | exact rowc (List.map_id _) | trivial
            · first | exact True.intro | exact ⟨rfl, rfl⟩ | exact ⟨rfl, rfl, rfl⟩ | rfl | exact rowc (List.map_id _) | trivial
            · first | exact True.intro | exact ⟨rfl, rfl⟩ | exact ⟨rfl, rfl, rfl⟩ | rfl | exact rowc (List.map_id _) | trivial
            · (first | trivial | exact ⟨rfl, rfl⟩ | exact ⟨rfl, rfl, rfl⟩ | simp)
            · first | exact True.intro | exact ⟨rfl, rfl⟩ | exact ⟨rfl, rfl, rfl⟩ | rfl | exact rowc (List.map_id _) | trivial
          · rw [if_neg (by rintro (h | h) <;> simp_all)] at hr
            try refine gp ?_
            refine cl (chg_ok x t1 (ht0 rfl)) ?_
            refine gp ?_
            generalize chgM x t1 = cg at hr ⊢
            cases cg with
            | false =>
              rw [if_pos rfl] at hr
              try refine gp ?_
              refine cp (fun i => i) (fun i => if i = 0 then 90 else if i = 1 then 91 else i) (pcut_ok q s' md x.path (by omega)) (gp ?_) (gp ?_) (gp ?_) (gp ?_) (gp ?_) ?_
              · first | trivial | exact ⟨rfl, rfl⟩ | exact ⟨rfl, rfl, rfl⟩ | exact le_refl _
              · first | trivial | exact ⟨rfl, rfl⟩ | exact ⟨rfl, rfl, rfl⟩ | exact le_refl _
              · first | trivial | exact ⟨rfl, rfl⟩ | exact ⟨rfl, rfl, rfl⟩ | exact le_refl _
              · first | trivial | exact ⟨rfl, rfl⟩ | exact ⟨rfl, rfl, rfl⟩ | exact le_refl _
              · first | trivial | exact ⟨rfl, rfl⟩ | exact ⟨rfl, rfl, rfl⟩ | exact le_refl _
              refine gp ?_
              have hl3 : (s' ++ [cutS x.path]).length = s'.length + 1 := by simp
              refine ⟨(i + 1, s' ++ [cutS x.path]), fun i => if i = 0 then 90 else if i = 1 then 91 else i, ⟨by dsimp only; omega, by dsimp only; omega, hr⟩, (by dsimp only; omega), fits_of (gp ?_) (gp ?_) (gp ?_) (gp ?_) (gp ?_)⟩
              · first | exact True.intro | exact ⟨rfl, rfl⟩ | exact ⟨rfl, rfl, rfl⟩ | rfl | exact rowc (List.map_id _) | trivial
              · first | exact True.intro | exact ⟨rfl, rfl⟩ | exact ⟨rfl, rfl, rfl⟩ | rfl | exact rowc (List.map_id _) | trivial
              · first | exact True.intro | exact ⟨rfl, rfl⟩ | exact ⟨rfl, rfl, rfl⟩ | rfl | exact rowc (List.map_id _) | trivial
              · (first | trivial | exact ⟨rfl, rfl⟩ | exact ⟨rfl, rfl, rfl⟩ | simp)
              · first | exact True.intro | exact ⟨rfl, rfl⟩ | exact ⟨rfl, rfl, rfl⟩ | rfl | exact rowc (List.map_id _) | trivial
            | true =>
              rw [if_neg (by simp)] at hr
              try refine gp ?_
              have hl3 := saveM_len q s' x.path
              refine cp (fun i => i) (fun i => if i = 0 then 90 else if i = 1 then 91 else i) (psave_ok q s' md x.path hq hx (by omega)) (gp ?_) (gp ?_) (gp ?_) (gp ?_) (gp ?_) ?_
              · first | trivial | exact ⟨rfl, rfl⟩ | exact ⟨rfl, rfl, rfl⟩ | exact le_refl _
              · first | trivial | exact ⟨rfl, rfl⟩ | exact ⟨rfl, rfl, rfl⟩ | exact le_refl _
              · first | trivial | exact ⟨rfl, rfl⟩ | exact ⟨rfl, rfl, rfl⟩ | exact le_refl _
              · first | trivial | exact ⟨rfl, rfl⟩ | exact ⟨rfl, rfl, rfl⟩ | exact le_refl _
              · first | trivial | exact ⟨rfl, rfl⟩ | exact ⟨rfl, rfl, rfl⟩ | exact le_refl _
              refine gp ?_
              generalize saveM q s' x.path = o at hr hl3 ⊢
              obtain ⟨oe, os⟩ := o
              dsimp only at hr hl3 ⊢
              refine br (fun er => ?_) (fun er => ?_)
              · rw [if_pos er] at hr
                subst hr
                try refine gp ?_
                refine outP [] (fun i => if i = 0 then 90 else if i = 1 then 91 else i) (gp ?_) (gp ?_) (gp ?_)
                all_goals trivial
              · rw [if_neg er] at hr
                try refine gp ?_
                refine ⟨(i + 1, os), fun i => if i = 0 then 90 else if i = 1 then 91 else i, ⟨by dsimp only; omega, by dsimp only; omega, hr⟩, (by dsimp only; omega), fits_of (gp ?_) (gp ?_) (gp ?_) (gp ?_) (gp ?_)⟩
                · first | exact True.intro | exact ⟨rfl, rfl⟩ | exact ⟨rfl, rfl, rfl⟩ | rfl | exact rowc (List.map_id _) | trivial
                · first | exact True.intro | exact ⟨rfl, rfl⟩ | exact ⟨rfl, rfl, rfl⟩ | rfl | exact rowc (List.map_id _) | trivial
                · first | exact True.intro | exact ⟨rfl, rfl⟩ | exact ⟨rfl, rfl, rfl⟩ | rfl | exact rowc (List.map_id _) | trivial
                · (first | trivial | exact ⟨rfl, rfl⟩ | exact ⟨rfl, rfl, rfl⟩ | simp)
                · first | exact True.intro | exact ⟨rfl, rfl⟩ | exact ⟨rfl, rfl, rfl⟩ | rfl | exact rowc (List.map_id _) | trivial
  · rw [List.drop_eq_nil_of_le (by omega), pgoesL] at hr
    subst hr
    try refine gp ?_
    refine outP [] (id) (gp ?_) (gp ?_) (gp ?_)
    all_goals trivial
end Go.Proofs.YtjbnmeofjiokeaaGreatDoor.Ev
namespace Go.Proofs.YtjbnmeofjiokeaaGreatDoor.Ev
open Go.RowKit
open Go.Proofs.YtjbnmeofjiokeaaGreatDoor.Mem
set_option linter.unusedVariables false
set_option linter.unusedSimpArgs false
set_option maxRecDepth 100000
theorem Rel.jB {w0 : Bs} {S : Nat → Prop} {m : Nat} {τ : St} {a : Act} {W : World} (hR : Rel w0 S m τ a W) (i q : Nat) {T : Nat} {l : List V} (hb : τ.bk i = some (.cells T l)) : Rel w0 S m (τ.setB i (.cells T (l.set q .j))) a W := by
  obtain ⟨G, F, hR⟩ := hR
  have hbk : ∀ j b, (τ.setB i (.cells T (l.set q .j))).bk j = some b → ∃ b', τ.bk j = some b' ∧ (∀ g, b.ob G j g ↔ b'.ob G j g) ∧ (∀ k, b.men k = true → b'.men k = true) := fun j b h => by
    simp only [St.setB] at h
    split at h
    · rename_i e
      subst e
      obtain rfl := Option.some.inj h
      exact ⟨_, hb, fun g => Iff.rfl, fun k hk => (menL_set hk).resolve_left (by simp [men])⟩
    · exact ⟨b, h, fun g => Iff.rfl, fun k h => h⟩
  refine ⟨G, F, hR.below, hR.size, hR.slot, fun j b hj => ?_, fun j b g hj hg => ?_, fun j j' b b' g hjj hj hj' hg hg' => ?_, hR.fin, hR.defers, hR.wf, fun j b hj => ?_, hR.fix, hR.mlt⟩
  · simp only [St.setB] at hj
    split at hj
    · rename_i e
      subst e
      obtain rfl := Option.some.inj hj
      obtain ⟨c, k1, k2, k3⟩ := hR.blk j _ hb
      refine ⟨c, k1, k2.trans List.length_set.symm, fun p y v e1 e2 => ?_⟩
      rw [List.getElem?_set] at e1
      split at e1
      · split at e1
        · rw [← Option.some.inj e1]; exact .j _ _
        · simp at e1
      · exact k3 p y v e1 e2
    · exact hR.blk j b hj
  · obtain ⟨b', e1, e2, _⟩ := hbk j b hj
    exact hR.own j b' g e1 ((e2 g).1 hg)
  · obtain ⟨b1, e1, e2, _⟩ := hbk j b hj
    obtain ⟨b2, e3, e4, _⟩ := hbk j' b' hj'
    exact hR.apart j j' b1 b2 g hjj e1 e3 ((e2 g).1 hg) ((e4 g).1 hg')
  · obtain ⟨b', e1, _, e3⟩ := hbk j b hj
    obtain ⟨k1, k2⟩ := hR.wfb j b' e1
    exact ⟨k1, fun k hk => k2 k (e3 k hk)⟩
/-- A cell of an own block may be forgotten. -/
theorem wk_jB {J : St → Prop} {τ : St} (i q : Nat) {T : Nat} {l : List V} (l' : List V) (hb : τ.bk i = some (.cells T l)) (hl : l.set q .j = l') (hJ : Wk J (τ.setB i (.cells T l'))) : Wk J τ := fun w0 S m a W hR => by
  subst hl
  exact hJ w0 S m a W (hR.jB i q hb)
/-- A plan in the making whose list of what was made nobody reads again. -/
def bkJ (q : Mak) (a n : Nat) : Bk := .cells 65 [.sl 5 Man dMn q.base.packs eMan, .sl 3 Shr dS q.base.dirs eShr, .sl 8 Stt dT q.tree eStt, .s q.old.name, .s q.old.ver, .sl 3 Rul dR q.old.needs eRul, .sl 3 Rul dR q.old.clashes eRul, .sl 5 Ent dE q.old.ents eEnt, .s q.next.name, .s q.next.ver, .sl 3 Rul dR q.next.needs eRul, .sl 3 Rul dR q.next.clashes eRul, .sl 5 Ent dE q.next.ents eEnt, .ow a n, .j]
theorem bkJd : ∀ (q : Mak) (a n : Nat), bkJ q a n = .cells 65 [.sl 5 Man dMn q.base.packs eMan, .sl 3 Shr dS q.base.dirs eShr, .sl 8 Stt dT q.tree eStt, .s q.old.name, .s q.old.ver, .sl 3 Rul dR q.old.needs eRul, .sl 3 Rul dR q.old.clashes eRul, .sl 5 Ent dE q.old.ents eEnt, .s q.next.name, .s q.next.ver, .sl 3 Rul dR q.next.needs eRul, .sl 3 Rul dR q.next.clashes eRul, .sl 5 Ent dE q.next.ents eEnt, .ow a n, .j] := fun _ _ _ => rfl
theorem gj {p q : Prop} (hq : q) (h : p ↔ q := by simp (config := { maxSteps := 10000000 }) (disch := omega) only [fxP, rPd, eokP, cPd, eTd, eBrd, ePd, bkQd, bkJd, edr, eod, false_and, and_false, epw, eokO, cSo, rDo, eSh, eBsd, evw, fxM, cSd, wrc, eRd, eEd, eMd, eBd, eEE, rDs, eok, true_implies, eo5, ev5, Nat.mul_one, Nat.zero_mul, Nat.one_mul, Nat.add_zero, lenl, bne_self_eq_false, Int.reduceLT, Int.reduceLE, Int.reduceEq, Int.reduceNe, Int.reduceAdd, Int.reduceSub, Int.reduceMul, Int.reduceNeg, ebr, wr64, sdl, ler, true_or, or_true, rng, List.length_map, List.length_range, List.length_append, List.length_replicate, List.length_set, List.length_take, List.length_drop, List.not_mem_nil, false_implies, implies_true, ↓ec, ↓eg, ↓eo, ↓eox, ↓es, ↓et1, em, emR, efz, enl, ebx, ebt, et, ev, List.drop_nil, Option.some.injEq, Option.isSome_none, Int.reduceToNat, List.replicate_zero, Bool.or_self, ez, ef, ebd, et2, Int.toNat_natCast, Option.map_none, Option.map_some, List.all_cons, List.all_nil, Bool.and_self, List.cons_append, List.nil_append, List.append_nil, List.append_assoc, ep, ew, Option.isSome_some, id_eq, Nat.reduceLT, Nat.reduceSub, Bool.false_or, Bool.true_or, Bool.or_true, Bool.true_and, Bool.and_true, reduceCtorEq, Nat.reduceBEq, Bool.true_eq_false, Bool.false_eq_true, List.map_cons, List.map_nil, List.take_succ_cons, List.take_zero, List.drop_succ_cons, List.drop_zero, List.length_cons, List.length_nil, Nat.zero_add, Nat.reduceAdd, Nat.reduceLeDiff, Bool.not_true, Bool.not_false, List.getElem?_cons_succ, List.getElem?_cons_zero, Option.bind_some, ne_eq, not_false_eq_true, ↓eh1, eh, en, List.getD_cons_zero, List.getD_cons_succ, Nat.reduceEqDiff, ↓reduceIte, cond_true, cond_false, Bool.or_false, decide_true, decide_false, true_and, and_true, decide_eq_true_eq, decide_eq_false_iff_not, Bool.not_eq_true', Bool.not_eq_false', not_true_eq_false, Decidable.not_not]; exact Iff.rfl) : p := h.2 hq
theorem paddj_ok (q : Mak) (s : List Stp) (x : Stp) (hl : s.length ≤ 1000000) : SpecP Tryz.prog LL 52 [.p 1000000000 0, eStp x] [(1000000000, bkJ q 0 s.length), (0, rP s)] (.tp []) [(1000000000, bkJ q 0 (s ++ [x]).length), (0, rP (s ++ [x]))] := by
  refine spec_ofP' (C := ⟨Tryz.prog, LL, EE, []⟩) (rl := []) (rs := []) CCx LLs Tryz.func52 rfl (by kernel_rfl) rfl (by kernel_rfl) (Nat.le_of_ble_eq_true rfl) rfl rfl rfl rfl rfl rfl rfl rfl (by decide) ?_
  refine gj ?_
  refine .inr ?_
  try refine gj ?_
  refine outP [] (fun i => if i = 0 then 11 else i) (gj ?_) (gj ?_) (gj ?_)
  all_goals trivial
def rmS (w : List UInt8) : Stp := ⟨5, w, 0, 0, 0, 0, [], []⟩
/-- Directories that go, from the last one on. -/
def emptM (b : Bas) : List Shr → List Stp → List Stp
  | [], s => s
  | d :: r, s => emptM b r (if d.made = true ∧ ¬ dirIx b.dirs d.path = true then s ++ [rmS d.path] else s)
set_option maxHeartbeats 4000000 in
theorem pempt_ok (q : Mak) (s : List Stp) (c : Bas) (hc : c.Big) (hl : s.length ≤ 10000) (hd : q.base.dirs.length ≤ 100000) : SpecP Tryz.prog LL 24 [.p 1000000000 0, eBas c] [(1000000000, bkJ q 0 s.length), (0, rP s)] (.tp []) [(1000000000, bkJ q 0 (emptM c q.base.dirs.reverse s).length), (0, rP (emptM c q.base.dirs.reverse s))] := by
  refine spec_ofP' (C := ⟨Tryz.prog, LL, EE, []⟩) (rl := []) (rs := []) CCx LLs Tryz.func24 rfl (by kernel_rfl) rfl (by kernel_rfl) (Nat.le_of_ble_eq_true rfl) rfl rfl rfl rfl rfl rfl rfl rfl (by decide) ?_
  refine gj ?_
  obtain ⟨r, hr⟩ : ∃ r, r = emptM c q.base.dirs.reverse s := ⟨_, rfl⟩
  rw [← hr]
  refine lp_hr [3] [3] (fun z : Nat × List Stp => [(0, .p 1000000000 0), (4, .n .i64 ((z.1 : Int) - 1))]) (fun z : Nat × List Stp => [(1000000000, bkJ q 0 z.2.length), (0, rP z.2)]) (fun z : Nat × List Stp => z.1 ≤ q.base.dirs.length ∧ z.2.length + z.1 ≤ s.length + q.base.dirs.length ∧ r = emptM c ((q.base.dirs.take z.1).reverse) z.2) (fun z : Nat × List Stp => z.1) ((q.base.dirs.length, s)) id ⟨Nat.le_refl _, Nat.le_refl _, by dsimp only; rw [List.take_of_length_le (Nat.le_refl _)]; exact hr⟩ (fits_of (gj ?_) (gj ?_) (gj ?_) (gj ?_) (gj ?_)) ?_
  · first | exact True.intro | exact ⟨rfl, rfl⟩ | exact ⟨rfl, rfl, rfl⟩ | rfl | exact rowc (List.map_id _) | trivial
  · first | exact True.intro | exact ⟨rfl, rfl⟩ | exact ⟨rfl, rfl, rfl⟩ | rfl | exact rowc (List.map_id _) | trivial
  · first | exact True.intro | exact ⟨rfl, rfl⟩ | exact ⟨rfl, rfl, rfl⟩ | rfl | exact rowc (List.map_id _) | trivial
  · first | exact True.intro | exact ⟨rfl, rfl⟩ | exact ⟨rfl, rfl, rfl⟩ | rfl | exact rowc (List.map_id _) | trivial
  · first | exact True.intro | exact ⟨rfl, rfl⟩ | exact ⟨rfl, rfl, rfl⟩ | rfl | exact rowc (List.map_id _) | trivial
  rintro ⟨j, s'⟩ ⟨hj, h1, hr⟩
  dsimp only at hj h1 hr ⊢
  try refine gj ?_
  refine br (fun e => ?_) (fun e => ?_)
  · obtain ⟨j, rfl⟩ : ∃ k, j = k + 1 := ⟨j - 1, by omega⟩
    rw [take_at q.base.dirs j dS (by omega), List.reverse_append, List.reverse_singleton, List.singleton_append, emptM] at hr
    have ej : (((j + 1 : Nat) : Int) - 1).toNat = j := by omega
    have ej2 : ((j + 1 : Nat) : Int) - 1 = (j : Int) := by omega
    rw [ej2]
    try refine gj ?_
    generalize q.base.dirs.getD j dS = d at hr
    refine br (fun m => ?_) (fun m => ?_)
    · try refine gj ?_
      refine cl (pshared_ok c d.path hc) ?_
      refine gj ?_
      generalize dirIx c.dirs d.path = x at hr ⊢
      cases x with
      | true =>
        rw [if_neg (by simp)] at hr
        try refine gj ?_
        refine ⟨(j, s'), id, ⟨by dsimp only; omega, by dsimp only; omega, hr⟩, (by dsimp only; omega), fits_of (gj ?_) (gj ?_) (gj ?_) (gj ?_) (gj ?_)⟩
        · first | exact True.intro | exact ⟨rfl, rfl⟩ | exact ⟨rfl, rfl, rfl⟩ | rfl | exact rowc (List.map_id _) | trivial
        · first | exact True.intro | exact ⟨rfl, rfl⟩ | exact ⟨rfl, rfl, rfl⟩ | rfl | exact rowc (List.map_id _) | trivial
        · first | exact True.intro | exact ⟨rfl, rfl⟩ | exact ⟨rfl, rfl, rfl⟩ | rfl | exact rowc (List.map_id _) | trivial
        · (first | trivial | exact ⟨rfl, rfl⟩ | exact ⟨rfl, rfl, rfl⟩ | simp)
        · first | exact True.intro | exact ⟨rfl, rfl⟩ | exact ⟨rfl, rfl, rfl⟩ | rfl | exact rowc (List.map_id _) | trivial
      | false =>
        rw [if_pos ⟨m, by simp⟩] at hr
        try refine gj ?_
        refine cp (fun i => i) (fun i => if i = 0 then 90 else i) (paddj_ok q s' (rmS d.path) (by omega)) (gj ?_) (gj ?_) (gj ?_) (gj ?_) (gj ?_) ?_
        · first | trivial | exact ⟨rfl, rfl⟩ | exact ⟨rfl, rfl, rfl⟩ | exact le_refl _
        · first | trivial | exact ⟨rfl, rfl⟩ | exact ⟨rfl, rfl, rfl⟩ | exact le_refl _
        · first | trivial | exact ⟨rfl, rfl⟩ | exact ⟨rfl, rfl, rfl⟩ | exact le_refl _
        · first | trivial | exact ⟨rfl, rfl⟩ | exact ⟨rfl, rfl, rfl⟩ | exact le_refl _
        · first | trivial | exact ⟨rfl, rfl⟩ | exact ⟨rfl, rfl, rfl⟩ | exact le_refl _
        refine gj ?_
        have hl3 : (s' ++ [rmS d.path]).length = s'.length + 1 := by simp
        refine ⟨(j, s' ++ [rmS d.path]), fun i => if i = 0 then 90 else i, ⟨by dsimp only; omega, by dsimp only; omega, hr⟩, (by dsimp only; omega), fits_of (gj ?_) (gj ?_) (gj ?_) (gj ?_) (gj ?_)⟩
        · first | exact True.intro | exact ⟨rfl, rfl⟩ | exact ⟨rfl, rfl, rfl⟩ | rfl | exact rowc (List.map_id _) | trivial
        · first | exact True.intro | exact ⟨rfl, rfl⟩ | exact ⟨rfl, rfl, rfl⟩ | rfl | exact rowc (List.map_id _) | trivial
        · first | exact True.intro | exact ⟨rfl, rfl⟩ | exact ⟨rfl, rfl, rfl⟩ | rfl | exact rowc (List.map_id _) | trivial
        · (first | trivial | exact ⟨rfl, rfl⟩ | exact ⟨rfl, rfl, rfl⟩ | simp)
        · first | exact True.intro | exact ⟨rfl, rfl⟩ | exact ⟨rfl, rfl, rfl⟩ | rfl | exact rowc (List.map_id _) | trivial
    · rw [if_neg (fun h => m h.1)] at hr
      try refine gj ?_
      refine ⟨(j, s'), id, ⟨by dsimp only; omega, by dsimp only; omega, hr⟩, (by dsimp only; omega), fits_of (gj ?_) (gj ?_) (gj ?_) (gj ?_) (gj ?_)⟩
      · first | exact True.intro | exact ⟨rfl, rfl⟩ | exact ⟨rfl, rfl, rfl⟩ | rfl | exact rowc (List.map_id _) | trivial
      · first | exact True.intro | exact ⟨rfl, rfl⟩ | exact ⟨rfl, rfl, rfl⟩ | rfl | exact rowc (List.map_id _) | trivial
      · first | exact True.intro | exact ⟨rfl, rfl⟩ | exact ⟨rfl, rfl, rfl⟩ | rfl | exact rowc (List.map_id _) | trivial
      · (first | trivial | exact ⟨rfl, rfl⟩ | exact ⟨rfl, rfl, rfl⟩ | simp)
      · first | exact True.intro | exact ⟨rfl, rfl⟩ | exact ⟨rfl, rfl, rfl⟩ | rfl | exact rowc (List.map_id _) | trivial
  · have : j = 0 := by omega
    subst this
    rw [List.take_zero, List.reverse_nil, emptM] at hr
    subst hr
    try refine gj ?_
    refine outP [] (id) (gj ?_) (gj ?_) (gj ?_)
    all_goals trivial
end Go.Proofs.YtjbnmeofjiokeaaGreatDoor.Ev
