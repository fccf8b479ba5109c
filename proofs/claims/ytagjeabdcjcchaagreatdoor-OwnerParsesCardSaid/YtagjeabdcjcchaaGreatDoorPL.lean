/- Databases: the laws of what is right and of what is read. -/
import Derived.Test.YtagjeabdcjcchaaGreatDoorPH
import Derived.Test.YtagjeabdcjcchaaGreatDoorPI
import Derived.Test.YtagjeabdcjcchaaGreatDoorPK
import Derived.Test.YtagjeabdcjcchaaGreatDoorPC
set_option linter.all false
namespace Go.Proofs.YtagjeabdcjcchaaGreatDoor.Ev
open Go.RowKit
open Go.Proofs.YtagjeabdcjcchaaGreatDoor.Mem
set_option linter.unusedVariables false
set_option linter.unusedSimpArgs false
set_option maxRecDepth 100000
theorem parseB_big (s : List UInt8) (hs : s.length ≤ 4000000) : (parseB s).1.Big := by
  unfold parseB
  split
  · exact (readB_sm hs).big
  · exact dB_sm.big
theorem textB_len {b : Bas} (h : BasOk b) : (textB b).length ≤ 4000000 := by
  have h1 := flat_len (f := packL) (l := b.packs) (n := 60000) fun m hm => pack_len (h.chk m hm)
  have hg := dirs_good h
  have h2 := flat_len (f := dirL) (l := b.dirs) (n := 300) fun d hd => dirL_len (hg.1 d hd).2.1 (hg.1 d hd).2.2 (dirs_short h d hd)
  have h3 := h.len
  have h4 := hg.2
  unfold textB restB
  rw [List.length_append, List.length_append, List.length_append]
  have h5 : wBase.length = 7 := rfl
  have h6 : wEnd.length = 4 := rfl
  have h7 : b.packs.length * 60000 ≤ 32 * 60000 := Nat.mul_le_mul_right _ h3
  have h8 : b.dirs.length * 300 ≤ 2048 * 300 := Nat.mul_le_mul_right _ h4
  omega
theorem printB_len (b : Bas) : (printB b).1.length ≤ 4000000 := by
  unfold printB
  split
  · exact textB_len (by assumption)
  · simp
set_option maxHeartbeats 4000000 in
theorem lawParses_ok (s : List UInt8) : Spec Tryz.prog LL 4 [.s s] (.b true) := by
  refine spec_of (C := ⟨Tryz.prog, LL, EE, []⟩) (rl := [.b true]) (rs := [.tmp 2]) CCx LLs Tryz.func4 rfl (by kernel_rfl) rfl (by kernel_rfl) (Nat.le_of_ble_eq_true rfl) (fun i => rfl) (fun i => by first | rfl | exact (Bool.or_false _).trans (eSd_men _ _)) rfl (by decide) ?_
  refine gb ?_
  refine br (fun c => ?_) (fun c => ?_)
  · try refine gb ?_
    refine cl (awake_ok) ?_
    refine gb ?_
    trivial
  · try refine gb ?_
    refine cl (oparse_ok s (by omega)) ?_
    refine gb ?_
    refine cl (orparse_ok s (by omega)) ?_
    refine gb ?_
    rw [← parse_same s]
    have hb : (parseB s).1.Big := parseB_big s (by omega)
    try refine gb ?_
    refine cl (awake_ok) ?_
    refine gb ?_
    refine cl (osame_ok _ hb) ?_
    refine gb ?_
    trivial
theorem back_print {s : List UInt8} (h : (parseB s).2 = 0) : printB (parseB s).1 = (s, 0) := by
  obtain ⟨h1, h2⟩ := parse_back2 h
  unfold printB
  rw [if_pos h1, h2]
set_option maxHeartbeats 4000000 in
theorem lawBack_ok (b : Bas) (s : List UInt8) (hb : b.Big) : Spec Tryz.prog LL 5 [eBas b, .s s] (.b true) := by
  refine spec_of (C := ⟨Tryz.prog, LL, EE, []⟩) (rl := [.b true]) (rs := [.tmp 4]) CCx LLs Tryz.func5 rfl (by kernel_rfl) rfl (by kernel_rfl) (Nat.le_of_ble_eq_true rfl) (fun i => rfl) (fun i => by first | rfl | exact (Bool.or_false _).trans (eSd_men _ _)) rfl (by decide) ?_
  refine gb ?_
  refine cl (great_ok b hb) ?_
  refine gb ?_
  cases hg : greatB b with
  | true =>
    try refine gb ?_
    refine cl (awake_ok) ?_
    refine gb ?_
    trivial
  | false =>
    try refine gb ?_
    refine br (fun c => ?_) (fun c => ?_)
    · try refine gb ?_
      refine cl (awake_ok) ?_
      refine gb ?_
      trivial
    · have hs : s.length ≤ 40000 := by omega
      try refine gb ?_
      refine cl (oprint_ok b hb) ?_
      refine gb ?_
      refine cl (oparse_ok (printB b).1 (printB_len b)) ?_
      refine gb ?_
      have hp2 := parseB_big s (by omega)
      have k1 : BasOk b → printB b = (textB b, 0) := fun h => if_pos h
      have k2 : ¬ BasOk b → printB b = ([], 1) := fun h => if_neg h
      by_cases h : BasOk b
      · rw [k1 h, parse_text h]
        try refine gb ?_
        refine cl (osame_ok b hb) ?_
        refine gb ?_
        refine cl (oparse_ok s (by omega)) ?_
        refine gb ?_
        refine cl (oprint_ok _ hp2) ?_
        refine gb ?_
        refine cl (awake_ok) ?_
        refine gb ?_
        have hk := @back_print s
        generalize parseB s = q at hk ⊢
        generalize printB q.1 = r at hk ⊢
        refine br (fun c1 => ?_) (fun c1 => ?_)
        · have hk := hk c1
          rw [hk]
          try refine gb ?_
          trivial
        · try refine gb ?_
          trivial
      · rw [k2 h]
        try refine gb ?_
        refine cl (oparse_ok s (by omega)) ?_
        refine gb ?_
        refine cl (oprint_ok _ hp2) ?_
        refine gb ?_
        refine cl (awake_ok) ?_
        refine gb ?_
        have hk := @back_print s
        generalize parseB s = q at hk ⊢
        generalize printB q.1 = r at hk ⊢
        refine br (fun c1 => ?_) (fun c1 => ?_)
        · have hk := hk c1
          rw [hk]
          try refine gb ?_
          trivial
        · try refine gb ?_
          trivial
end Go.Proofs.YtagjeabdcjcchaaGreatDoor.Ev

