/- A law of archives: what is read is sound. -/
import Derived.Test.YtikmkgoeepgbkaaGreatDoorTz
set_option linter.all false
namespace Go.Proofs.YtikmkgoeepgbkaaGreatDoor.Ev
open Go.RowKit
open Go.Proofs.YtikmkgoeepgbkaaGreatDoor.Mem
set_option linter.unusedVariables false
set_option linter.unusedSimpArgs false
set_option maxRecDepth 100000
/-- All members are good, and not too many. -/
def Chk (l : List Mbr) : Prop := (∀ m ∈ l, tchkM m = 0) ∧ l.length ≤ 64
theorem block_mem (r : Rdr) : (blockM r).2.2.mem = r.mem := by unfold blockM; split <;> rfl
theorem bytes_mem (r : Rdr) (n : Nat) : (bytesM r n).2.2.mem = r.mem := by unfold bytesM; split <;> rfl
theorem end_mem (r : Rdr) : (endM r).2.mem = r.mem := by unfold endM; split <;> exact block_mem r
theorem recs_mem (r : Rdr) (h : Hdr) : (recsM r h).2.mem = r.mem := by
  unfold recsM
  repeat' split
  all_goals first | rfl | exact bytes_mem _ _
theorem data_mem (r : Rdr) (h : Hdr) (k : Int) (n : Nts) : (dataM r h k n).2.2.mem = r.mem := by
  unfold dataM
  repeat' split
  all_goals first | rfl | exact bytes_mem _ _
theorem put_chk {r : Rdr} {m : Mbr} (h : Chk r.mem) : Chk (putR r m).2.mem := by
  unfold putR
  split
  · exact h
  · rename_i a
    split
    · exact h
    · refine ⟨fun x hx => ?_, by simp; omega⟩
      rcases List.mem_append.1 hx with hx | hx
      · exact h.1 x hx
      · rw [List.mem_singleton.1 hx]; exact Decidable.not_not.1 a
theorem memb_chk {r : Rdr} (h : Hdr) (hc : Chk r.mem) : Chk (membM r h).2.mem := by
  have hd : ∀ k n, Chk (dataM r.bare h k n).2.2.mem := fun k n => by rw [data_mem]; exact hc
  unfold membM
  repeat' split
  all_goals first | exact hc | exact hd _ _ | exact put_chk (hd _ _)
theorem step_chk {r : Rdr} (hc : Chk r.mem) : Chk (stepM r).2.2.mem := by
  have hb : Chk (blockM r).2.2.mem := by rw [block_mem]; exact hc
  unfold stepM
  repeat' split
  all_goals first | exact hb | (rw [end_mem]; exact hb) | (rw [recs_mem]; exact hb) | exact memb_chk _ hb
theorem readL_chk : ∀ (k : Nat) (r : Rdr), Chk r.mem → Chk (readL k r).1
  | 0, _, _ => ⟨by simp [readL], by simp [readL]⟩
  | k + 1, r, h => by
    unfold readL
    split
    · exact ⟨by simp, by simp⟩
    · split
      · exact step_chk h
      · exact readL_chk k _ (step_chk h)
theorem readM_chk (s : List UInt8) : Chk (readM s).1 := by
  unfold readM
  split
  · exact ⟨by simp, by simp⟩
  · exact readL_chk _ _ ⟨by simp [rdr0], by simp [rdr0]⟩
theorem readL_err : ∀ (k : Nat) (r : Rdr), ¬ (readL k r).2 = 0 → (readL k r).1 = []
  | 0, _, _ => rfl
  | k + 1, r, h => by
    unfold readL at h ⊢
    split
    · rfl
    · rename_i a
      rw [if_neg a] at h
      split
      · rename_i b
        rw [if_pos b] at h
        exact absurd rfl h
      · rename_i b
        rw [if_neg b] at h
        exact readL_err k _ h
theorem readM_err (s : List UInt8) (h : ¬ (readM s).2 = 0) : (readM s).1 = [] := by
  unfold readM at h ⊢
  split
  · rfl
  · rename_i a
    rw [if_neg a] at h
    exact readL_err _ _ h
theorem lsafe_ok (s : List UInt8) : Spec Tryz.prog LL 6 [.s s] (.b true) := by
  refine spec_of (C := ⟨Tryz.prog, LL, EE, []⟩) (rl := [.b true]) (rs := [.tmp 2]) CCx LLs Tryz.func6 rfl (by kernel_rfl) rfl (by kernel_rfl) (Nat.le_of_ble_eq_true rfl) (fun i => rfl) (fun i => by first | rfl | exact (Bool.or_false _).trans (eSd_men _ _)) rfl (by decide) ?_
  refine gr ?_
  refine br (fun a => ?_) (fun a => ?_)
  · try refine gr ?_
    refine cl (tawake_ok) ?_
    refine gr ?_
    trivial
  · try refine gr ?_
    refine cl (tread_ok s) ?_
    refine gr ?_
    have hc := readM_chk s
    have he := readM_err s
    generalize readM s = w at hc he ⊢
    obtain ⟨l, e⟩ := w
    dsimp only at hc he ⊢
    try refine gr ?_
    refine br (fun b => ?_) (fun b => ?_)
    · have := he b
      subst this
      try refine gr ?_
      refine cl (tawake_ok) ?_
      refine gr ?_
      trivial
    · try refine gr ?_
      obtain ⟨h1, h2⟩ := hc
      refine lp_hd [3] [] (fun i : Nat => [(5, .n .i64 (i : Int))]) (fun i : Nat => []) (fun i : Nat => i ≤ l.length) (fun i : Nat => l.length - i) (0) id (id) (Nat.zero_le _) (fits_of (gr ?_) (gr ?_) (gr ?_) (gr ?_) (gr ?_)) ?_
      · first | exact True.intro | exact ⟨rfl, rfl⟩ | exact ⟨rfl, rfl, rfl⟩ | rfl | exact rowc (List.map_id _) | trivial
      · first | exact True.intro | exact ⟨rfl, rfl⟩ | exact ⟨rfl, rfl, rfl⟩ | rfl | exact rowc (List.map_id _) | trivial
      · first | exact True.intro | exact ⟨rfl, rfl⟩ | exact ⟨rfl, rfl, rfl⟩ | rfl | exact rowc (List.map_id _) | trivial
      · first | exact True.intro | exact ⟨rfl, rfl⟩ | exact ⟨rfl, rfl, rfl⟩ | rfl | exact rowc (List.map_id _) | trivial
      · first | exact True.intro | exact ⟨rfl, rfl⟩ | exact ⟨rfl, rfl, rfl⟩ | rfl | exact rowc (List.map_id _) | trivial
      rintro i hi
      try refine gr ?_
      refine br (fun c => ?_) (fun c => ?_)
      · try refine gr ?_
        have hm : l.getD i dMb ∈ l := getD_mem (by omega)
        have hk := MOk.of (h1 _ hm)
        have p1 := hk.pl
        have p2 := hk.tl
        have p3 := hk.dl
        refine cl (rcheck_ok (l.getD i dMb) ⟨by omega, by omega, by omega⟩) ?_
        refine gr ?_
        rw [h1 _ hm]
        try refine gr ?_
        refine ⟨i + 1, (by omega), (by omega), fits_of (gr ?_) (gr ?_) (gr ?_) (gr ?_) (gr ?_)⟩
        · first | exact True.intro | exact ⟨rfl, rfl⟩ | exact ⟨rfl, rfl, rfl⟩ | rfl | exact rowc (List.map_id _) | trivial
        · first | exact True.intro | exact ⟨rfl, rfl⟩ | exact ⟨rfl, rfl, rfl⟩ | rfl | exact rowc (List.map_id _) | trivial
        · first | exact True.intro | exact ⟨rfl, rfl⟩ | exact ⟨rfl, rfl, rfl⟩ | rfl | exact rowc (List.map_id _) | trivial
        · first | exact True.intro | exact ⟨rfl, rfl⟩ | exact ⟨rfl, rfl, rfl⟩ | rfl | exact rowc (List.map_id _) | trivial
        · first | exact True.intro | exact ⟨rfl, rfl⟩ | exact ⟨rfl, rfl, rfl⟩ | rfl | exact rowc (List.map_id _) | trivial
      · try refine gr ?_
        refine cl (tawake_ok) ?_
        refine gr ?_
        trivial
end Go.Proofs.YtikmkgoeepgbkaaGreatDoor.Ev
