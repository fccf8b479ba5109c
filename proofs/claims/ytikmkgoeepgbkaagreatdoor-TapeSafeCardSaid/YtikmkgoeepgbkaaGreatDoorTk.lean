/- Archives: records and members are read. -/
import Derived.Test.YtikmkgoeepgbkaaGreatDoorTi
set_option linter.all false
namespace Go.Proofs.YtikmkgoeepgbkaaGreatDoor.Ev
open Go.RowKit
open Go.Proofs.YtikmkgoeepgbkaaGreatDoor.Mem
set_option linter.unusedVariables false
set_option linter.unusedSimpArgs false
set_option maxRecDepth 100000
def recsM (r : Rdr) (h : Hdr) : Int × Rdr :=
  if 1048576 < h.size then (3, r) else
  if ¬ (bytesM r h.size.toNat).2.1 = 0 then ((bytesM r h.size.toNat).2.1, (bytesM r h.size.toNat).2.2) else
  if h.flag = 120 ∧ (bytesM r h.size.toNat).2.2.has = true then (2, (bytesM r h.size.toNat).2.2) else
  if ¬ (decPM (bytesM r h.size.toNat).1).2 = 0 then ((decPM (bytesM r h.size.toNat).1).2, (bytesM r h.size.toNat).2.2) else
  if h.flag = 103 then (0, { (bytesM r h.size.toNat).2.2 with all := takM (bytesM r h.size.toNat).2.2.all (decPM (bytesM r h.size.toNat).1).1 }) else
  (0, { (bytesM r h.size.toNat).2.2 with next := (decPM (bytesM r h.size.toNat).1).1, has := true })
theorem decPF_len : ∀ (k : Nat) (s : List UInt8) (l : List Pr), (decPF k s l).1.length ≤ l.length + k
  | 0, s, l => by unfold decPF; split <;> simp
  | k + 1, s, l => by
    unfold decPF
    split
    · simp
    · split
      · simp
      · have := decPF_len k (s.drop (firstM s).2) (l ++ [(firstM s).1])
        simp at this ⊢
        omega
theorem decPM_len (s : List UInt8) : (decPM s).1.length ≤ 1048576 := by
  unfold decPM
  split
  · simp
  · have := decPF_len s.length s []
    simp at this
    omega
theorem flag_is {c : UInt8} {k : UInt8} : c = k ↔ (c.toNat : Int) = (k.toNat : Int) := ⟨fun h => by rw [h], fun h => UInt8.toNat_inj.1 (by omega)⟩
theorem f120 {c : UInt8} : c = 120 ↔ (c.toNat : Int) = 120 := flag_is
theorem f103 {c : UInt8} : c = 103 ↔ (c.toNat : Int) = 103 := flag_is
theorem bytes_len (r : Rdr) (n : Nat) (hr : r.Ok) : (bytesM r n).1.length ≤ 2097152 := by
  unfold bytesM
  have := hr.text
  split
  · simp
  · simp; omega
theorem trecs_ok (r : Rdr) (h : Hdr) (hr : r.Ok) (hs : 0 ≤ h.size) : SpecP Tryz.prog LL 57 [.p 1000000000 0, eHdr h] [(1000000000, bkR r 0), (0, rE r.mem)] (.n .i64 (recsM r h).1) [(1000000000, bkR (recsM r h).2 0), (0, rE (recsM r h).2.mem)] := by
  refine spec_ofP' (C := ⟨Tryz.prog, LL, EE, []⟩) (rl := [.n .i64 (recsM r h).1]) (rs := [.tmp 4]) CCx LLs Tryz.func57 rfl (by kernel_rfl) rfl (by kernel_rfl) (Nat.le_of_ble_eq_true rfl) rfl rfl rfl rfl rfl rfl rfl rfl (by decide) ?_
  refine gr ?_
  obtain ⟨q, hq⟩ : ∃ q, q = recsM r h := ⟨_, rfl⟩
  rw [← hq]
  unfold recsM at hq
  refine br (fun a => ?_) (fun a => ?_)
  · rw [if_pos a] at hq
    subst hq
    try refine gr ?_
    refine outP [] id ?_ ?_ ?_
    all_goals first | trivial | (refine gr ?_; first | trivial | rfl)
  · rw [if_neg a] at hq
    obtain ⟨m, hm⟩ : ∃ m : Nat, h.size = (m : Int) := ⟨h.size.toNat, by omega⟩
    rw [hm, Int.toNat_natCast] at hq
    try refine gr ?_
    rw [hm]
    refine cp (fun i => i) (fun i => if i = 0 then 80 else i) (tbytes_ok r m hr (by omega)) (gr ?_) (gr ?_) (gr ?_) (gr ?_) (gr ?_) ?_
    · first | trivial | exact ⟨rfl, rfl⟩ | exact ⟨rfl, rfl, rfl⟩ | exact le_refl _
    · first | trivial | exact ⟨rfl, rfl⟩ | exact ⟨rfl, rfl, rfl⟩ | exact le_refl _
    · first | trivial | exact ⟨rfl, rfl⟩ | exact ⟨rfl, rfl, rfl⟩ | exact le_refl _
    · first | trivial | exact ⟨rfl, rfl⟩ | exact ⟨rfl, rfl, rfl⟩ | exact le_refl _
    · first | trivial | exact ⟨rfl, rfl⟩ | exact ⟨rfl, rfl, rfl⟩ | exact le_refl _
    refine gr ?_
    have hok := bytes_ok hr m
    have hbl := bytes_len r m hr
    generalize bytesM r m = t at hq hok hbl ⊢
    obtain ⟨t1, t2, t3⟩ := t
    dsimp only at hq hok hbl ⊢
    refine br (fun b => ?_) (fun b => ?_)
    · rw [if_pos b] at hq
      subst hq
      try refine gr ?_
      refine outP [] (fun i => if i = 0 then 80 else i) ?_ ?_ ?_
      all_goals first | trivial | (refine gr ?_; first | trivial | rfl)
    · rw [if_neg b] at hq
      try refine gr ?_
      refine br (fun c => ?_) (fun c => ?_)
      · try refine gr ?_
        refine br (fun d => ?_) (fun d => ?_)
        · rw [if_pos ⟨f120.2 c, d⟩] at hq
          subst hq
          try refine gr ?_
          refine outP [] (fun i => if i = 0 then 80 else i) ?_ ?_ ?_
          all_goals first | trivial | (refine gr ?_; first | trivial | rfl)
        · rw [if_neg (fun h => d h.2)] at hq
          try refine gr ?_
          refine cl (pdec_ok t1 (by omega)) ?_
          refine gr ?_
          have hdl := decPM_len t1
          generalize decPM t1 = p at hq hdl ⊢
          obtain ⟨p1, p2⟩ := p
          dsimp only at hq hdl ⊢
          refine br (fun e => ?_) (fun e => ?_)
          · rw [if_pos e] at hq
            subst hq
            try refine gr ?_
            refine outP [] (fun i => if i = 0 then 80 else i) ?_ ?_ ?_
            all_goals first | trivial | (refine gr ?_; first | trivial | rfl)
          · rw [if_neg e] at hq
            try refine gr ?_
            refine br (fun f => ?_) (fun f => ?_)
            · rw [if_pos (f103.2 f)] at hq
              try refine gr ?_
              refine cp (fun i => if i = 0 then 80 else i) (fun i => if i = 0 then 81 else i) (ttake2_ok t3 p1 (by omega)) (gr ?_) (gr ?_) (gr ?_) (gr ?_) (gr ?_) ?_
              · first | trivial | exact ⟨rfl, rfl⟩ | exact ⟨rfl, rfl, rfl⟩ | exact le_refl _
              · first | trivial | exact ⟨rfl, rfl⟩ | exact ⟨rfl, rfl, rfl⟩ | exact le_refl _
              · first | trivial | exact ⟨rfl, rfl⟩ | exact ⟨rfl, rfl, rfl⟩ | exact le_refl _
              · first | trivial | exact ⟨rfl, rfl⟩ | exact ⟨rfl, rfl, rfl⟩ | exact le_refl _
              · first | trivial | exact ⟨rfl, rfl⟩ | exact ⟨rfl, rfl, rfl⟩ | exact le_refl _
              refine gr ?_
              subst hq
              try refine gr ?_
              refine outP [] (fun i => if i = 0 then 81 else i) ?_ ?_ ?_
              all_goals first | trivial | (refine gr ?_; first | trivial | rfl)
            · rw [if_neg (fun h => f (f103.1 h))] at hq
              subst hq
              try refine gr ?_
              refine outP [] (fun i => if i = 0 then 80 else i) ?_ ?_ ?_
              all_goals first | trivial | (refine gr ?_; first | trivial | rfl)
      · rw [if_neg (fun h => c (f120.1 h.1))] at hq
        try refine gr ?_
        refine cl (pdec_ok t1 (by omega)) ?_
        refine gr ?_
        have hdl := decPM_len t1
        generalize decPM t1 = p at hq hdl ⊢
        obtain ⟨p1, p2⟩ := p
        dsimp only at hq hdl ⊢
        refine br (fun e => ?_) (fun e => ?_)
        · rw [if_pos e] at hq
          subst hq
          try refine gr ?_
          refine outP [] (fun i => if i = 0 then 80 else i) ?_ ?_ ?_
          all_goals first | trivial | (refine gr ?_; first | trivial | rfl)
        · rw [if_neg e] at hq
          try refine gr ?_
          refine br (fun f => ?_) (fun f => ?_)
          · rw [if_pos (f103.2 f)] at hq
            try refine gr ?_
            refine cp (fun i => if i = 0 then 80 else i) (fun i => if i = 0 then 81 else i) (ttake2_ok t3 p1 (by omega)) (gr ?_) (gr ?_) (gr ?_) (gr ?_) (gr ?_) ?_
            · first | trivial | exact ⟨rfl, rfl⟩ | exact ⟨rfl, rfl, rfl⟩ | exact le_refl _
            · first | trivial | exact ⟨rfl, rfl⟩ | exact ⟨rfl, rfl, rfl⟩ | exact le_refl _
            · first | trivial | exact ⟨rfl, rfl⟩ | exact ⟨rfl, rfl, rfl⟩ | exact le_refl _
            · first | trivial | exact ⟨rfl, rfl⟩ | exact ⟨rfl, rfl, rfl⟩ | exact le_refl _
            · first | trivial | exact ⟨rfl, rfl⟩ | exact ⟨rfl, rfl, rfl⟩ | exact le_refl _
            refine gr ?_
            subst hq
            try refine gr ?_
            refine outP [] (fun i => if i = 0 then 81 else i) ?_ ?_ ?_
            all_goals first | trivial | (refine gr ?_; first | trivial | rfl)
          · rw [if_neg (fun h => f (f103.1 h))] at hq
            subst hq
            try refine gr ?_
            refine outP [] (fun i => if i = 0 then 80 else i) ?_ ?_ ?_
            all_goals first | trivial | (refine gr ?_; first | trivial | rfl)
end Go.Proofs.YtikmkgoeepgbkaaGreatDoor.Ev
