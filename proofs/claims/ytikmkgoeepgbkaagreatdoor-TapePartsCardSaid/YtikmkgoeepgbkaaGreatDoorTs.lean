/- Archives are read. -/
import Derived.Test.YtikmkgoeepgbkaaGreatDoorTn
set_option linter.all false
namespace Go.Proofs.YtikmkgoeepgbkaaGreatDoor.Ev
open Go.RowKit
open Go.Proofs.YtikmkgoeepgbkaaGreatDoor.Mem
set_option linter.unusedVariables false
set_option linter.unusedSimpArgs false
set_option maxRecDepth 100000
def endM (r : Rdr) : Int × Rdr :=
  if ¬ (blockM r).2.1 = 0 ∨ blnkH (blockM r).1 = false ∨ (blockM r).2.2.has = true ∨ blankZ ((blockM r).2.2.text.drop (blockM r).2.2.pos) = false then (2, (blockM r).2.2) else (0, (blockM r).2.2)
theorem block_len (r : Rdr) (hr : r.Ok) : (blockM r).1.length ≤ 2097152 := by
  unfold blockM
  have := hr.text
  split
  · simp
  · simp; omega
theorem tend_ok (r : Rdr) (hr : r.Ok) : SpecP Tryz.prog LL 55 [.p 1000000000 0] [(1000000000, bkR r 0), (0, rE r.mem)] (.n .i64 (endM r).1) [(1000000000, bkR (endM r).2 0), (0, rE (endM r).2.mem)] := by
  refine spec_ofP' (C := ⟨Tryz.prog, LL, EE, []⟩) (rl := [.n .i64 (endM r).1]) (rs := [.tmp 2]) CCx LLs Tryz.func55 rfl (by kernel_rfl) rfl (by kernel_rfl) (Nat.le_of_ble_eq_true rfl) rfl rfl rfl rfl rfl rfl rfl rfl (by decide) ?_
  refine gr ?_
  obtain ⟨q, hq⟩ : ∃ q, q = endM r := ⟨_, rfl⟩
  rw [← hq]
  unfold endM at hq
  refine cp (fun i => i) (fun i => if i = 0 then 80 else i) (tblock_ok r hr) (gr ?_) (gr ?_) (gr ?_) (gr ?_) (gr ?_) ?_
  · first | trivial | exact ⟨rfl, rfl⟩ | exact ⟨rfl, rfl, rfl⟩ | exact le_refl _
  · first | trivial | exact ⟨rfl, rfl⟩ | exact ⟨rfl, rfl, rfl⟩ | exact le_refl _
  · first | trivial | exact ⟨rfl, rfl⟩ | exact ⟨rfl, rfl, rfl⟩ | exact le_refl _
  · first | trivial | exact ⟨rfl, rfl⟩ | exact ⟨rfl, rfl, rfl⟩ | exact le_refl _
  · first | trivial | exact ⟨rfl, rfl⟩ | exact ⟨rfl, rfl, rfl⟩ | exact le_refl _
  refine gr ?_
  have hok := block_ok hr
  have hbl := block_len r hr
  generalize blockM r = t at hq hok hbl ⊢
  obtain ⟨t1, t2, t3⟩ := t
  dsimp only at hq hok hbl ⊢
  have h1 := hok.text
  have h2 := hok.pos
  refine br (fun a => ?_) (fun a => ?_)
  · try refine gr ?_
    refine cd (hblank_ok t1 (by omega)) ?_
    refine gr ?_
    refine br (fun b => ?_) (fun b => ?_)
    · try refine gr ?_
      refine br (fun c => ?_) (fun c => ?_)
      · try refine gr ?_
        refine cd (tblank_ok (t3.text.drop t3.pos) (by simp; omega)) ?_
        refine gr ?_
        refine br (fun d => ?_) (fun d => ?_)
        · rw [if_pos (.inr (.inr (.inr d)))] at hq
          subst hq
          try refine gr ?_
          refine outP [] (fun i => if i = 0 then 80 else i) ?_ ?_ ?_
          all_goals first | trivial | (refine gr ?_; first | trivial | rfl)
        · rw [if_neg (by rintro (h | h | h | h); exact h a; simp [b] at h; simp [h] at c; exact d h)] at hq
          subst hq
          try refine gr ?_
          refine outP [] (fun i => if i = 0 then 80 else i) ?_ ?_ ?_
          all_goals first | trivial | (refine gr ?_; first | trivial | rfl)
      · rw [if_pos (.inr (.inr (.inl (by simpa using c))))] at hq
        subst hq
        try refine gr ?_
        refine outP [] (fun i => if i = 0 then 80 else i) ?_ ?_ ?_
        all_goals first | trivial | (refine gr ?_; first | trivial | rfl)
    · rw [if_pos (.inr (.inl (by simpa using b)))] at hq
      subst hq
      try refine gr ?_
      refine outP [] (fun i => if i = 0 then 80 else i) ?_ ?_ ?_
      all_goals first | trivial | (refine gr ?_; first | trivial | rfl)
  · rw [if_pos (.inl a)] at hq
    subst hq
    try refine gr ?_
    refine outP [] (fun i => if i = 0 then 80 else i) ?_ ?_ ?_
    all_goals first | trivial | (refine gr ?_; first | trivial | rfl)
theorem end_ok {r : Rdr} (h : r.Ok) : (endM r).2.Ok := by
  unfold endM
  split
  · exact block_ok h
  · exact block_ok h
theorem dec_read (s : List UInt8) : (decM s).1.Read := by
  have h0 : dH.Read := ⟨by decide, by decide, by decide, by decide⟩
  unfold decM
  repeat' split
  all_goals first
    | exact h0
    | (refine ⟨?_, ?_, ?_, ?_⟩
       · exact Nat.le_trans (cutM_len _) (by simp; omega)
       · exact Nat.le_trans (cutM_len _) (by simp; omega)
       · exact Nat.le_trans (cutM_len _) (by simp; omega)
       · dsimp only; omega)
theorem cut_val (s : List UInt8) (c : UInt8) : (Lib.cut s [c]).2.1.length ≤ s.length := by
  unfold Lib.cut
  split
  · simp
  · simp
theorem first_val (s : List UInt8) : (firstM s).1.val.length ≤ s.length := by
  unfold firstM
  split
  · simp [dPr]
  · split
    · simp [dPr]
    · exact Nat.le_trans (cut_val _ _) (by simp; omega)
theorem decPF_val (B : Nat) : ∀ (k : Nat) (s : List UInt8) (l : List Pr), s.length ≤ B → (∀ p ∈ l, p.val.length ≤ B) → ∀ p ∈ (decPF k s l).1, p.val.length ≤ B
  | 0, s, l, hs, h, p, hp => by
    unfold decPF at hp
    split at hp
    · exact h p hp
    · simp at hp
  | k + 1, s, l, hs, h, p, hp => by
    unfold decPF at hp
    split at hp
    · exact h p hp
    · split at hp
      · simp at hp
      · refine decPF_val B k _ _ (by simp; omega) (fun q hq => ?_) p hp
        rcases List.mem_append.1 hq with hq | hq
        · exact h q hq
        · rw [List.mem_singleton] at hq
          rw [hq]
          exact Nat.le_trans (first_val s) hs
theorem decPM_val {s : List UInt8} (hs : s.length ≤ 2097152) : ∀ p ∈ (decPM s).1, p.val.length ≤ 2097152 := by
  unfold decPM
  split
  · intro p hp; simp at hp
  · exact decPF_val _ _ _ _ hs (fun p hp => by simp at hp)
theorem recs_ok {r : Rdr} (h : Hdr) (hr : r.Ok) : (recsM r h).2.Ok := by
  have hb := bytes_ok hr h.size.toNat
  have hl := bytes_len r h.size.toNat hr
  have hv := decPM_val hl
  have hn := decPM_len (bytesM r h.size.toNat).1
  unfold recsM
  repeat' split
  all_goals first
    | exact hr
    | exact hb
    | exact ⟨hb.text, hb.pos, of_le _ _ hb.ap hv, of_le _ _ hb.tg hv, hb.nx, hb.nl⟩
    | exact ⟨hb.text, hb.pos, hb.ap, hb.tg, hv, hn⟩
theorem data_ok {r : Rdr} (h : Hdr) (k : Int) (n : Nts) (hr : r.Ok) : (dataM r h k n).2.2.Ok := by
  unfold dataM
  repeat' split
  all_goals first | exact hr | exact bytes_ok hr _
theorem memb_ok {r : Rdr} (h : Hdr) (hr : r.Ok) : (membM r h).2.Ok := by
  have hd := data_ok h (kindM h.flag).1 r.nts (bare_ok hr)
  unfold membM putR
  repeat' split
  all_goals first | exact hr | exact hd | exact ⟨hd.text, hd.pos, hd.ap, hd.tg, hd.nx, hd.nl⟩
def stepM (r : Rdr) : Bool × Int × Rdr :=
  if ¬ (blockM r).2.1 = 0 then (false, (blockM r).2.1, (blockM r).2.2) else
  if blnkH (blockM r).1 = true then (true, (endM (blockM r).2.2).1, (endM (blockM r).2.2).2) else
  if ¬ (decM (blockM r).1).2 = 0 then (false, (decM (blockM r).1).2, (blockM r).2.2) else
  if (decM (blockM r).1).1.flag = 120 ∨ (decM (blockM r).1).1.flag = 103 then (false, (recsM (blockM r).2.2 (decM (blockM r).1).1).1, (recsM (blockM r).2.2 (decM (blockM r).1).1).2) else
  (false, (membM (blockM r).2.2 (decM (blockM r).1).1).1, (membM (blockM r).2.2 (decM (blockM r).1).1).2)
theorem tstep_ok (r : Rdr) (hr : r.Ok) : SpecP Tryz.prog LL 27 [.p 1000000000 0] [(1000000000, bkR r 0), (0, rE r.mem)] (.tp [.b (stepM r).1, .n .i64 (stepM r).2.1]) [(1000000000, bkR (stepM r).2.2 0), (0, rE (stepM r).2.2.mem)] := by
  refine spec_ofP' (C := ⟨Tryz.prog, LL, EE, []⟩) (rl := [.b (stepM r).1, .n .i64 (stepM r).2.1]) (rs := [.tmp 2, .tmp 3]) CCx LLs Tryz.func27 rfl (by kernel_rfl) rfl (by kernel_rfl) (Nat.le_of_ble_eq_true rfl) rfl rfl rfl rfl rfl rfl rfl rfl (by decide) ?_
  refine gr ?_
  obtain ⟨q, hq⟩ : ∃ q, q = stepM r := ⟨_, rfl⟩
  rw [← hq]
  unfold stepM at hq
  refine cp (fun i => i) (fun i => if i = 0 then 80 else i) (tblock_ok r hr) (gr ?_) (gr ?_) (gr ?_) (gr ?_) (gr ?_) ?_
  · first | trivial | exact ⟨rfl, rfl⟩ | exact ⟨rfl, rfl, rfl⟩ | exact le_refl _
  · first | trivial | exact ⟨rfl, rfl⟩ | exact ⟨rfl, rfl, rfl⟩ | exact le_refl _
  · first | trivial | exact ⟨rfl, rfl⟩ | exact ⟨rfl, rfl, rfl⟩ | exact le_refl _
  · first | trivial | exact ⟨rfl, rfl⟩ | exact ⟨rfl, rfl, rfl⟩ | exact le_refl _
  · first | trivial | exact ⟨rfl, rfl⟩ | exact ⟨rfl, rfl, rfl⟩ | exact le_refl _
  refine gr ?_
  have hok := block_ok hr
  have hbl := block_len r hr
  generalize blockM r = t at hq hok hbl ⊢
  obtain ⟨t1, t2, t3⟩ := t
  dsimp only at hq hok hbl ⊢
  refine br (fun a => ?_) (fun a => ?_)
  · rw [if_pos a] at hq
    subst hq
    try refine gr ?_
    refine outP [] (fun i => if i = 0 then 80 else i) ?_ ?_ ?_
    all_goals first | trivial | (refine gr ?_; first | trivial | rfl)
  · rw [if_neg a] at hq
    try refine gr ?_
    refine cl (hblank_ok t1 (by omega)) ?_
    refine gr ?_
    refine br (fun b => ?_) (fun b => ?_)
    · rw [if_pos b] at hq
      try refine gr ?_
      refine cp (fun i => if i = 0 then 80 else i) (fun i => if i = 0 then 81 else i) (tend_ok t3 hok) (gr ?_) (gr ?_) (gr ?_) (gr ?_) (gr ?_) ?_
      · first | trivial | exact ⟨rfl, rfl⟩ | exact ⟨rfl, rfl, rfl⟩ | exact le_refl _
      · first | trivial | exact ⟨rfl, rfl⟩ | exact ⟨rfl, rfl, rfl⟩ | exact le_refl _
      · first | trivial | exact ⟨rfl, rfl⟩ | exact ⟨rfl, rfl, rfl⟩ | exact le_refl _
      · first | trivial | exact ⟨rfl, rfl⟩ | exact ⟨rfl, rfl, rfl⟩ | exact le_refl _
      · first | trivial | exact ⟨rfl, rfl⟩ | exact ⟨rfl, rfl, rfl⟩ | exact le_refl _
      refine gr ?_
      subst hq
      try refine gr ?_
      refine outP [] (fun i => if i = 0 then 81 else i) ?_ ?_ ?_
      all_goals first | trivial | (refine gr ?_; first | trivial | rfl)
    · rw [if_neg b] at hq
      try refine gr ?_
      refine cl (hdec_ok t1 (by omega)) ?_
      refine gr ?_
      have hrd := dec_read t1
      generalize decM t1 = e at hq hrd ⊢
      obtain ⟨h, e2⟩ := e
      dsimp only at hq hrd ⊢
      refine br (fun c => ?_) (fun c => ?_)
      · rw [if_pos c] at hq
        subst hq
        try refine gr ?_
        refine outP [] (fun i => if i = 0 then 80 else i) ?_ ?_ ?_
        all_goals first | trivial | (refine gr ?_; first | trivial | rfl)
      · rw [if_neg c] at hq
        try refine gr ?_
        refine br (fun d => ?_) (fun d => ?_)
        · try refine gr ?_
          refine br (fun f => ?_) (fun f => ?_)
          · rw [if_pos (.inr (f103.2 f))] at hq
            try refine gr ?_
            refine cp (fun i => if i = 0 then 80 else i) (fun i => if i = 0 then 81 else i) (trecs_ok t3 h hok hrd.size) (gr ?_) (gr ?_) (gr ?_) (gr ?_) (gr ?_) ?_
            · first | trivial | exact ⟨rfl, rfl⟩ | exact ⟨rfl, rfl, rfl⟩ | exact le_refl _
            · first | trivial | exact ⟨rfl, rfl⟩ | exact ⟨rfl, rfl, rfl⟩ | exact le_refl _
            · first | trivial | exact ⟨rfl, rfl⟩ | exact ⟨rfl, rfl, rfl⟩ | exact le_refl _
            · first | trivial | exact ⟨rfl, rfl⟩ | exact ⟨rfl, rfl, rfl⟩ | exact le_refl _
            · first | trivial | exact ⟨rfl, rfl⟩ | exact ⟨rfl, rfl, rfl⟩ | exact le_refl _
            refine gr ?_
            subst hq
            try refine gr ?_
            refine outP [] (fun i => if i = 0 then 81 else i) ?_ ?_ ?_
            all_goals first | trivial | (refine gr ?_; first | trivial | rfl)
          · rw [if_neg (by rintro (w | w); exact d (f120.1 w); exact f (f103.1 w))] at hq
            try refine gr ?_
            refine cp (fun i => if i = 0 then 80 else i) (fun i => if i = 0 then 81 else i) (tmemb_ok t3 h hok hrd) (gr ?_) (gr ?_) (gr ?_) (gr ?_) (gr ?_) ?_
            · first | trivial | exact ⟨rfl, rfl⟩ | exact ⟨rfl, rfl, rfl⟩ | exact le_refl _
            · first | trivial | exact ⟨rfl, rfl⟩ | exact ⟨rfl, rfl, rfl⟩ | exact le_refl _
            · first | trivial | exact ⟨rfl, rfl⟩ | exact ⟨rfl, rfl, rfl⟩ | exact le_refl _
            · first | trivial | exact ⟨rfl, rfl⟩ | exact ⟨rfl, rfl, rfl⟩ | exact le_refl _
            · first | trivial | exact ⟨rfl, rfl⟩ | exact ⟨rfl, rfl, rfl⟩ | exact le_refl _
            refine gr ?_
            subst hq
            try refine gr ?_
            refine outP [] (fun i => if i = 0 then 81 else i) ?_ ?_ ?_
            all_goals first | trivial | (refine gr ?_; first | trivial | rfl)
        · rw [if_pos (.inl (f120.2 (by omega)))] at hq
          try refine gr ?_
          refine cp (fun i => if i = 0 then 80 else i) (fun i => if i = 0 then 81 else i) (trecs_ok t3 h hok hrd.size) (gr ?_) (gr ?_) (gr ?_) (gr ?_) (gr ?_) ?_
          · first | trivial | exact ⟨rfl, rfl⟩ | exact ⟨rfl, rfl, rfl⟩ | exact le_refl _
          · first | trivial | exact ⟨rfl, rfl⟩ | exact ⟨rfl, rfl, rfl⟩ | exact le_refl _
          · first | trivial | exact ⟨rfl, rfl⟩ | exact ⟨rfl, rfl, rfl⟩ | exact le_refl _
          · first | trivial | exact ⟨rfl, rfl⟩ | exact ⟨rfl, rfl, rfl⟩ | exact le_refl _
          · first | trivial | exact ⟨rfl, rfl⟩ | exact ⟨rfl, rfl, rfl⟩ | exact le_refl _
          refine gr ?_
          subst hq
          try refine gr ?_
          refine outP [] (fun i => if i = 0 then 81 else i) ?_ ?_ ?_
          all_goals first | trivial | (refine gr ?_; first | trivial | rfl)
def readL : Nat → Rdr → List Mbr × Int
  | 0, _ => ([], 2)
  | k + 1, r => if ¬ (stepM r).2.1 = 0 then ([], (stepM r).2.1) else if (stepM r).1 = true then ((stepM r).2.2.mem, 0) else readL k (stepM r).2.2
def rdr0 (s : List UInt8) : Rdr := ⟨s, 0, dNts, [], false, []⟩
def readM (s : List UInt8) : List Mbr × Int := if 2097152 < s.length then ([], 3) else readL (s.length + 1) (rdr0 s)
theorem step_ok {r : Rdr} (h : r.Ok) : (stepM r).2.2.Ok := by
  have hb := block_ok h
  unfold stepM
  repeat' split
  all_goals first | exact hb | exact end_ok hb | exact recs_ok _ hb | exact memb_ok _ hb
theorem bytes_pos (r : Rdr) (n : Nat) : (bytesM r n).2.2.text = r.text ∧ r.pos ≤ (bytesM r n).2.2.pos := by
  unfold bytesM
  split
  · exact ⟨rfl, Nat.le_refl _⟩
  · exact ⟨rfl, by dsimp only; omega⟩
theorem data_pos (r : Rdr) (h : Hdr) (k : Int) (n : Nts) : (dataM r h k n).2.2.text = r.text ∧ r.pos ≤ (dataM r h k n).2.2.pos := by
  unfold dataM
  repeat' split
  all_goals first | exact ⟨rfl, Nat.le_refl _⟩ | exact bytes_pos _ _
theorem recs_pos (r : Rdr) (h : Hdr) : (recsM r h).2.text = r.text ∧ r.pos ≤ (recsM r h).2.pos := by
  have hb := bytes_pos r h.size.toNat
  unfold recsM
  repeat' split
  all_goals first | exact ⟨rfl, Nat.le_refl _⟩ | exact hb
theorem memb_pos (r : Rdr) (h : Hdr) : (membM r h).2.text = r.text ∧ r.pos ≤ (membM r h).2.pos := by
  have hd := data_pos r.bare h (kindM h.flag).1 r.nts
  unfold membM putR
  repeat' split
  all_goals first | exact ⟨rfl, Nat.le_refl _⟩ | exact hd
theorem step_pos {r : Rdr} (h1 : (stepM r).2.1 = 0) (h2 : (stepM r).1 = false) : (stepM r).2.2.text = r.text ∧ r.pos + 512 ≤ (stepM r).2.2.pos := by
  have hb : (blockM r).2.1 = 0 → (blockM r).2.2.text = r.text ∧ (blockM r).2.2.pos = r.pos + 512 := by
    unfold blockM
    split
    · intro h; simp at h
    · intro _; exact ⟨rfl, rfl⟩
  unfold stepM at h1 h2 ⊢
  split at h1
  · rename_i e; exact absurd h1 e
  · rename_i e
    rw [if_neg e] at h2 ⊢
    obtain ⟨b1, b2⟩ := hb (Decidable.not_not.1 e)
    split at h1
    · rename_i e2; rw [if_pos e2] at h2; simp at h2
    · rename_i e2
      rw [if_neg e2]
      split at h1
      · rename_i e3; exact absurd h1 e3
      · rename_i e3
        rw [if_neg e3]
        split
        · have := recs_pos (blockM r).2.2 (decM (blockM r).1).1
          exact ⟨this.1.trans b1, by have := this.2; dsimp only; omega⟩
        · have := memb_pos (blockM r).2.2 (decM (blockM r).1).1
          exact ⟨this.1.trans b1, by have := this.2; dsimp only; omega⟩
theorem tread_ok (s : List UInt8) : Spec Tryz.prog LL 15 [.s s] (.tp [.sl 8 Mbr dMb (readM s).1 eMbr, .n .i64 (readM s).2]) := by
  refine spec_of (C := ⟨Tryz.prog, LL, EE, []⟩) (rl := [.sl 8 Mbr dMb (readM s).1 eMbr, .n .i64 (readM s).2]) (rs := [.tmp 2, .tmp 3]) CCx LLs Tryz.func15 rfl (by kernel_rfl) rfl (by kernel_rfl) (Nat.le_of_ble_eq_true rfl) (fun i => rfl) (fun i => by first | rfl | exact (Bool.or_false _).trans (eSd_men _ _)) rfl (by decide) ?_
  refine gr ?_
  refine br (fun a => ?_) (fun a => ?_)
  · try refine gr ?_
    rw [show readM s = ([], 3) from if_pos (by omega)]
    exact ⟨le_nl, rfl⟩
  · have hr : readM s = _ := if_neg (by omega)
    try refine gr ?_
    refine lp_leB 12 (T := 54) (l := [.s s, .n .i64 0, .s [], .b false, .s [], .b false, .s [], .b false, .s [], .b false, .s [], .b false, .s [], .b false, .nl, .b false, .nl]) [.s s, .n .i64 0, .s [], .b false, .s [], .b false, .s [], .b false, .s [], .b false, .s [], .b false, .s [], .b false, .sl 2 Pr dPr [] ePr, .b false, .nl] (gr ?_) ?_ ?_ ?_
    · trivial
    · repeat' apply And.intro
      all_goals first | exact le_refl _ | exact le_nl | trivial
    · intro k
      simp [menL, men]
    refine lp_nilc 12 54 [.s s, .n .i64 0, .s [], .b false, .s [], .b false, .s [], .b false, .s [], .b false, .s [], .b false, .s [], .b false, .sl 2 Pr dPr [] ePr, .b false, .nl] 16 301 28 hMb (gr ?_) (gr ?_) (gr ?_) ?_
    · trivial
    · trivial
    · trivial
    refine lp_hr [] [] (fun x : Rdr => [(4, .p 12 0)]) (fun x : Rdr => [(12, bkR x 301), (301, rE x.mem)]) (fun x : Rdr => x.Ok ∧ x.text = s ∧ ∃ k, s.length - x.pos < k ∧ readM s = readL k x) (fun x : Rdr => s.length - x.pos) (rdr0 s) id ⟨⟨by show s.length ≤ _; omega, Nat.zero_le _, by simp [rdr0, dNts, dNt], by simp [rdr0, dNts, dNt], fun p hp => by simp [rdr0] at hp, by simp [rdr0]⟩, rfl, s.length + 1, by show s.length - 0 < _; omega, hr⟩ (fits_of (gr ?_) (gr ?_) (gr ?_) (gr ?_) (gr ?_)) ?_
    · first | exact True.intro | exact ⟨rfl, rfl⟩ | exact ⟨rfl, rfl, rfl⟩ | rfl | exact rowc (List.map_id _) | trivial
    · first | exact True.intro | exact ⟨rfl, rfl⟩ | exact ⟨rfl, rfl, rfl⟩ | rfl | exact rowc (List.map_id _) | trivial
    · first | exact True.intro | exact ⟨rfl, rfl⟩ | exact ⟨rfl, rfl, rfl⟩ | rfl | exact rowc (List.map_id _) | trivial
    · first | exact True.intro | exact ⟨rfl, rfl⟩ | exact ⟨rfl, rfl, rfl⟩ | rfl | exact rowc (List.map_id _) | trivial
    · first | exact True.intro | exact ⟨rfl, rfl⟩ | exact ⟨rfl, rfl, rfl⟩ | rfl | exact rowc (List.map_id _) | trivial
    clear hr
    rintro x ⟨h1, h2, k, h3, h4⟩
    obtain ⟨j, rfl⟩ : ∃ j, k = j + 1 := ⟨k - 1, by omega⟩
    rw [readL] at h4
    try refine gr ?_
    refine cp (fun i => if i = 0 then 301 else 12) (fun i => if i = 0 then 80 else 12) (tstep_ok x h1) (gr ?_) (gr ?_) (gr ?_) (gr ?_) (gr ?_) ?_
    · first | trivial | exact ⟨rfl, rfl⟩ | exact ⟨rfl, rfl, rfl⟩ | exact le_refl _
    · first | trivial | exact ⟨rfl, rfl⟩ | exact ⟨rfl, rfl, rfl⟩ | exact le_refl _
    · first | trivial | exact ⟨rfl, rfl⟩ | exact ⟨rfl, rfl, rfl⟩ | exact le_refl _
    · first | trivial | exact ⟨rfl, rfl⟩ | exact ⟨rfl, rfl, rfl⟩ | exact le_refl _
    · first | trivial | exact ⟨rfl, rfl⟩ | exact ⟨rfl, rfl, rfl⟩ | exact le_refl _
    refine gr ?_
    have hsp := fun e1 e2 => step_pos (r := x) e1 e2
    have hso := step_ok h1
    generalize stepM x = t at h4 hsp hso ⊢
    obtain ⟨e, c, y⟩ := t
    dsimp only at h4 hsp hso ⊢
    refine br (fun b => ?_) (fun b => ?_)
    · rw [if_pos b] at h4
      try refine gr ?_
      rw [h4]
      exact ⟨le_nl, rfl⟩
    · rw [if_neg b] at h4
      try refine gr ?_
      refine br (fun d => ?_) (fun d => ?_)
      · rw [if_pos d] at h4
        try refine gr ?_
        rw [h4]
        exact ⟨le_refl _, rfl⟩
      · rw [if_neg d] at h4
        obtain ⟨p1, p2⟩ := hsp (by omega) (by simpa using d)
        have p3 := hso.pos
        have p4 : y.text.length = s.length := by rw [p1, h2]
        try refine gr ?_
        refine ⟨y, fun i => if i = 301 then 80 else i, ⟨hso, p1.trans h2, j, by omega, h4⟩, (by omega), fits_of (gr ?_) (gr ?_) (gr ?_) (gr ?_) (gr ?_)⟩
        · first | exact True.intro | exact ⟨rfl, rfl⟩ | exact ⟨rfl, rfl, rfl⟩ | rfl | exact rowc (List.map_id _) | trivial
        · first | exact True.intro | exact ⟨rfl, rfl⟩ | exact ⟨rfl, rfl, rfl⟩ | rfl | exact rowc (List.map_id _) | trivial
        · first | exact True.intro | exact ⟨rfl, rfl⟩ | exact ⟨rfl, rfl, rfl⟩ | rfl | exact rowc (List.map_id _) | trivial
        · first | exact True.intro | exact ⟨rfl, rfl⟩ | exact ⟨rfl, rfl, rfl⟩ | rfl | exact rowc (List.map_id _) | trivial
        · first | exact True.intro | exact ⟨rfl, rfl⟩ | exact ⟨rfl, rfl, rfl⟩ | rfl | exact rowc (List.map_id _) | trivial
end Go.Proofs.YtikmkgoeepgbkaaGreatDoor.Ev
