/- Records are read. -/
import Derived.Test.YtikmkgoeepgbkaaGreatDoorTb
set_option linter.all false
namespace Go.Proofs.YtikmkgoeepgbkaaGreatDoor.Ev
open Go.RowKit
open Go.Proofs.YtikmkgoeepgbkaaGreatDoor.Mem
set_option linter.unusedVariables false
set_option linter.unusedSimpArgs false
set_option maxRecDepth 100000
theorem pdec_ok (s : List UInt8) (hs : s.length ≤ 281474976710656) : Spec Tryz.prog LL 88 [.s s] (.tp [.sl 2 Pr dPr (decPM s).1 ePr, .n .i64 (decPM s).2]) := by
  refine spec_of (C := ⟨Tryz.prog, LL, EE, []⟩) (rl := [.sl 2 Pr dPr (decPM s).1 ePr, .n .i64 (decPM s).2]) (rs := [.tmp 2, .tmp 3]) CCx LLs Tryz.func88 rfl (by kernel_rfl) rfl (by kernel_rfl) (Nat.le_of_ble_eq_true rfl) (fun i => rfl) (fun i => by first | rfl | exact (Bool.or_false _).trans (eSd_men _ _)) rfl (by decide) ?_
  refine gk ?_
  refine br (fun a => ?_) (fun a => ?_)
  · try refine gk ?_
    rw [show decPM s = ([], 3) from if_pos (by omega)]
    exact ⟨le_nl, rfl⟩
  · have hr : decPM s = decPF s.length s [] := if_neg (by omega)
    try refine gk ?_
    refine lp_nil 4 106 hPr (gk ?_) (gk ?_) ?_
    · trivial
    · trivial
    refine lp_hr [] [] (fun x : Nat × List UInt8 × List Pr => [(0, .s x.2.1), (4, .ow 4 x.2.2.length)]) (fun x : Nat × List UInt8 × List Pr => [(4, rR x.2.2)]) (fun x : Nat × List UInt8 × List Pr => decPM s = decPF x.1 x.2.1 x.2.2 ∧ x.2.1.length ≤ x.1 ∧ x.1 ≤ 1048576 ∧ x.2.2.length + x.1 ≤ 1048576) (fun x : Nat × List UInt8 × List Pr => x.1) ((s.length, s, [])) id ⟨hr, Nat.le_refl _, by dsimp only; omega, by simp; omega⟩ (fits_of (gk ?_) (gk ?_) (gk ?_) (gk ?_) (gk ?_)) ?_
    · first | exact True.intro | exact ⟨rfl, rfl⟩ | exact ⟨rfl, rfl, rfl⟩ | rfl | exact rowc (List.map_id _) | trivial
    · first | exact True.intro | exact ⟨rfl, rfl⟩ | exact ⟨rfl, rfl, rfl⟩ | rfl | exact rowc (List.map_id _) | trivial
    · first | exact True.intro | exact ⟨rfl, rfl⟩ | exact ⟨rfl, rfl, rfl⟩ | rfl | exact rowc (List.map_id _) | trivial
    · first | exact True.intro | exact ⟨rfl, rfl⟩ | exact ⟨rfl, rfl, rfl⟩ | rfl | exact rowc (List.map_id _) | trivial
    · first | exact True.intro | exact ⟨rfl, rfl⟩ | exact ⟨rfl, rfl, rfl⟩ | rfl | exact rowc (List.map_id _) | trivial
    rintro ⟨k, w, l⟩ ⟨h1, h2, h3, h4⟩
    dsimp only at h1 h2 h3 h4 ⊢
    try refine gk ?_
    refine br (fun e => ?_) (fun e => ?_)
    · obtain ⟨j, rfl⟩ : ∃ j, k = j + 1 := ⟨k - 1, by have : 0 < w.length := List.length_pos_iff.2 e; omega⟩
      rw [decPF, if_neg e] at h1
      have hfl := firstM_le w
      try refine gk ?_
      refine cl (pfirst_ok w (by omega)) ?_
      refine gk ?_
      generalize firstM w = f at h1 hfl ⊢
      obtain ⟨p, n⟩ := f
      dsimp only at h1 hfl ⊢
      refine br (fun c => ?_) (fun c => ?_)
      · rw [if_pos (by omega)] at h1
        try refine gk ?_
        rw [h1]
        exact ⟨le_nl, rfl⟩
      · rw [if_neg (by omega)] at h1
        try refine gk ?_
        refine .inr ?_
        refine ⟨(j, w.drop n, l ++ [p]), fun i => if i = 4 then 22 else i, ⟨h1, by simp; omega, by dsimp only; omega, by simp; omega⟩, (by dsimp only; omega), fits_of (gk ?_) (gk ?_) (gk ?_) (gk ?_) (gk ?_)⟩
        · first | exact True.intro | exact ⟨rfl, rfl⟩ | exact ⟨rfl, rfl, rfl⟩ | rfl | exact rowc (List.map_id _) | trivial
        · first | exact True.intro | exact ⟨rfl, rfl⟩ | exact ⟨rfl, rfl, rfl⟩ | rfl | exact rowc (List.map_id _) | trivial
        · first | exact True.intro | exact ⟨rfl, rfl⟩ | exact ⟨rfl, rfl, rfl⟩ | rfl | exact rowc (List.map_id _) | trivial
        · first | exact True.intro | exact ⟨rfl, rfl⟩ | exact ⟨rfl, rfl, rfl⟩ | rfl | exact rowc (List.map_id _) | trivial
        · first | exact True.intro | exact ⟨rfl, rfl⟩ | exact ⟨rfl, rfl, rfl⟩ | rfl | exact rowc (List.map_id _) | trivial
    · have e := Decidable.not_not.1 e
      subst e
      rw [show decPF k [] l = (l, 0) by cases k <;> simp [decPF]] at h1
      try refine gk ?_
      rw [h1]
      exact ⟨le_refl _, rfl⟩
end Go.Proofs.YtikmkgoeepgbkaaGreatDoor.Ev
