/- The document's members. -/
import Derived.Test.YtikmkgoeepgbkaaGreatDoorTj
set_option linter.all false
namespace Go.Proofs.YtikmkgoeepgbkaaGreatDoor.Ev
open Go.RowKit
open Go.Proofs.YtikmkgoeepgbkaaGreatDoor.Mem
set_option linter.unusedVariables false
set_option linter.unusedSimpArgs false
set_option maxRecDepth 100000
set_option maxHeartbeats 4000000 in
theorem rcheck_ok (m : Mbr) (hb : m.Big) : Spec Tryz.prog LL 12 [eMbr m] (.n .i64 (tchkM m)) := by
  refine spec_of (C := ⟨Tryz.prog, LL, EE, [18]⟩) (rl := [.n .i64 (tchkM m)]) (rs := [.tmp 2]) CCx LLs Tryz.func12 rfl (by kernel_rfl) rfl (by kernel_rfl) (Nat.le_of_ble_eq_true rfl) (fun i => rfl) (fun i => by first | rfl | exact (Bool.or_false _).trans (eSd_men _ _)) rfl (by decide) ?_
  refine gr ?_
  refine cl (rparts2_ok m.path) ?_
  refine gr ?_
  refine br (fun a => ?_) (fun a => ?_)
  · try refine gr ?_
    rw [tchkM, if_pos a]
  · obtain ⟨r, hr⟩ : ∃ r, r = tchkM m := ⟨_, rfl⟩
    rw [← hr]
    rw [tchkM, if_neg a] at hr
    try refine gr ?_
    refine br (fun b0 => ?_) (fun b0 => ?_)
    rotate_left
    · first | exact (hr.trans (if_pos (by omega))).symm | exact (hr.trans ((if_neg (by omega)).trans (if_pos (by omega)))).symm
    try refine gr ?_
    refine br (fun b1 => ?_) (fun b1 => ?_)
    rotate_left
    · first | exact (hr.trans (if_pos (by omega))).symm | exact (hr.trans ((if_neg (by omega)).trans (if_pos (by omega)))).symm
    try refine gr ?_
    refine br (fun b2 => ?_) (fun b2 => ?_)
    rotate_left
    · first | exact (hr.trans (if_pos (by omega))).symm | exact (hr.trans ((if_neg (by omega)).trans (if_pos (by omega)))).symm
    try refine gr ?_
    refine br (fun b3 => ?_) (fun b3 => ?_)
    rotate_left
    · first | exact (hr.trans (if_pos (by omega))).symm | exact (hr.trans ((if_neg (by omega)).trans (if_pos (by omega)))).symm
    try refine gr ?_
    refine br (fun b4 => ?_) (fun b4 => ?_)
    rotate_left
    · first | exact (hr.trans (if_pos (by omega))).symm | exact (hr.trans ((if_neg (by omega)).trans (if_pos (by omega)))).symm
    try refine gr ?_
    refine br (fun b5 => ?_) (fun b5 => ?_)
    rotate_left
    · first | exact (hr.trans (if_pos (by omega))).symm | exact (hr.trans ((if_neg (by omega)).trans (if_pos (by omega)))).symm
    try refine gr ?_
    refine br (fun b6 => ?_) (fun b6 => ?_)
    rotate_left
    · first | exact (hr.trans (if_pos (by omega))).symm | exact (hr.trans ((if_neg (by omega)).trans (if_pos (by omega)))).symm
    try refine gr ?_
    refine br (fun b7 => ?_) (fun b7 => ?_)
    rotate_left
    · first | exact (hr.trans (if_pos (by omega))).symm | exact (hr.trans ((if_neg (by omega)).trans (if_pos (by omega)))).symm
    try refine gr ?_
    refine br (fun b8 => ?_) (fun b8 => ?_)
    · try refine gr ?_
      first | trivial | exact (hr.trans ((if_neg (by omega)).trans (if_pos (by omega)))).symm
    rw [if_neg (by omega), if_neg (by omega)] at hr
    have hk : m.kind = 1 ∨ m.kind = 2 ∨ m.kind = 3 ∨ m.kind = 4 := by omega
    clear b0 b1 b2 b3 b4 b5 b6 b7 b8
    have a := Decidable.not_not.1 a
    rcases hk with hk | hk | hk | hk
    · rw [hk] at hr ⊢
      try refine gr ?_
      refine br (fun t => ?_) (fun t => ?_)
      · try refine gr ?_
        first | trivial | (rw [hr]; simp_all [linkB]; done) | (rw [hr]; simp_all [linkB]; omega)
      · try refine gr ?_
        refine br (fun e => ?_) (fun e => ?_)
        · try refine gr ?_
          first | trivial | (rw [hr]; simp_all [linkB]; done) | (rw [hr]; simp_all [linkB]; omega)
        · try refine gr ?_
          first | trivial | (rw [hr]; simp_all [linkB]; done) | (rw [hr]; simp_all [linkB]; omega)
    · rw [hk] at hr ⊢
      try refine gr ?_
      refine br (fun d => ?_) (fun d => ?_)
      · try refine gr ?_
        first | trivial | (rw [hr]; simp_all [linkB]; done) | (rw [hr]; simp_all [linkB]; omega)
      · try refine gr ?_
        refine br (fun t => ?_) (fun t => ?_)
        · try refine gr ?_
          first | trivial | (rw [hr]; simp_all [linkB]; done) | (rw [hr]; simp_all [linkB]; omega)
        · try refine gr ?_
          refine br (fun e => ?_) (fun e => ?_)
          · try refine gr ?_
            first | trivial | (rw [hr]; simp_all [linkB]; done) | (rw [hr]; simp_all [linkB]; omega)
          · try refine gr ?_
            first | trivial | (rw [hr]; simp_all [linkB]; done) | (rw [hr]; simp_all [linkB]; omega)
    · rw [hk] at hr ⊢
      try refine gr ?_
      refine br (fun d => ?_) (fun d => ?_)
      · try refine gr ?_
        first | trivial | (rw [hr]; simp_all [linkB]; done) | (rw [hr]; simp_all [linkB]; omega)
      · try refine gr ?_
        refine cl (rtarget2_ok m.target) ?_
        refine gr ?_
        refine br (fun t => ?_) (fun t => ?_)
        · try refine gr ?_
          first | trivial | (rw [hr]; simp_all [linkB]; done) | (rw [hr]; simp_all [linkB]; omega)
        · try refine gr ?_
          refine br (fun e => ?_) (fun e => ?_)
          · try refine gr ?_
            first | trivial | (rw [hr]; simp_all [linkB]; done) | (rw [hr]; simp_all [linkB]; omega)
          · try refine gr ?_
            first | trivial | (rw [hr]; simp_all [linkB]; done) | (rw [hr]; simp_all [linkB]; omega)
    · rw [hk] at hr ⊢
      try refine gr ?_
      refine br (fun d => ?_) (fun d => ?_)
      · try refine gr ?_
        first | trivial | (rw [hr]; simp_all [linkB]; done) | (rw [hr]; simp_all [linkB]; omega)
      · try refine gr ?_
        refine br (fun e => ?_) (fun e => ?_)
        · try refine gr ?_
          first | trivial | (rw [hr]; simp_all [linkB]; done) | (rw [hr]; simp_all [linkB]; omega)
        · try refine gr ?_
          refine cl (rparts2_ok m.target) ?_
          refine gr ?_
          first | trivial | (rw [hr]; simp_all [linkB]; done) | (rw [hr]; simp_all [linkB]; omega)
end Go.Proofs.YtikmkgoeepgbkaaGreatDoor.Ev
