/- The laws of redo: the example, and what is recovered again. -/
import Derived.Test.YtnmaaijeamlplaaDoorKH
set_option linter.all false
namespace Go.Proofs.YtnmaaijeamlplaaDoor.Ev
open Go.RowKit
open Go.Proofs.YtnmaaijeamlplaaDoor.Mem
set_option linter.unusedVariables false
set_option linter.unusedSimpArgs false
set_option maxRecDepth 100000
theorem rise2 (L : Int) (a b : List UInt8) (h : 6 ≤ L) : riseL L (-1) [⟨2, a⟩, ⟨5, b⟩] = true := by
  simp [riseL]; omega
theorem awake_gen (x7 x8 : List UInt8) (D0 : Dk) (h7 : Spec Tryd.prog LL 28 [.n .u8 7] (.s x7)) (h8 : Spec Tryd.prog LL 28 [.n .u8 8] (.s x8)) (l7 : x7.length = 256) (l8 : x8.length = 256) (hD : Spec Tryd.prog LL 37 [.n .i64 40] (.tp [eDk D0, .n .i64 0])) (b1 : D0.loose.length ≤ 100000) (b2 : Small D0) (s : List (List UInt8)) (f1 : formatM D0 = (⟨s, [], -1, false⟩, 0)) (f2 : Clean ⟨s, [], -1, false⟩ 1) (f3 : s.length = 40) : Spec Tryd.prog LL 12 [] (.b true) := by
  refine spec_of (C := ⟨Tryd.prog, LL, EE, []⟩) (rl := [.b true]) (rs := [.tmp 0]) CCx LLs Tryd.func12 rfl (by kernel_rfl) rfl (by kernel_rfl) (Nat.le_of_ble_eq_true rfl) (fun i => rfl) (fun i => rfl) rfl (by decide) ?_
  refine gs ?_
  refine cl (hD) ?_
  refine gs ?_
  refine cl (format_ok D0 b1 b2) ?_
  refine gs ?_
  rw [f1]
  dsimp only
  refine cd (h7) ?_
  refine gs ?_
  refine cd (h8) ?_
  refine gs ?_
  refine .inr ?_
  have hw : Wok ⟨s, [], -1, false⟩ [⟨2, x7⟩, ⟨5, x8⟩] := by
    refine ⟨rise2 _ _ _ (by unfold lim; dsimp only; omega), fun w hw => ?_, by simp, by unfold fitsB; dsimp only; rw [f3]; simp⟩
    simp at hw
    rcases hw with rfl | rfl
    · exact l7
    · exact l8
  obtain ⟨t, g1, g2, g3, g4⟩ := commit_whole f2 (by omega) hw
  refine cd (commit_ok ⟨s, [], -1, false⟩ [⟨2, x7⟩, ⟨5, x8⟩] (by simp) (by unfold Small; dsimp only; omega) (by dsimp only; omega) (by simp)) ?_
  refine gs ?_
  rw [g1]
  dsimp only
  refine cl (home_ok ⟨t, [], -1, false⟩ (by simp) (ready0 g2.u.1 g2.u.2.1) g2.u.1) ?_
  refine gs ?_
  refine cl (epochL ⟨t, [], -1, false⟩ (by simp)) ?_
  refine gs ?_
  rw [epoch_is g2.u g2.n.1 g2.b (by omega)]
  have e2 : ((homes ⟨t, [], -1, false⟩).getD 2 []) = x7 := by
    rcases g4 2 (by omega) with ⟨w, hw, e, h⟩ | ⟨h, _⟩
    · simp at hw
      rcases hw with rfl | rfl
      · exact h
      · simp at e
    · exact absurd rfl (h ⟨2, x7⟩ (by simp))
  have e5 : ((homes ⟨t, [], -1, false⟩).getD 5 []) = x8 := by
    rcases g4 5 (by omega) with ⟨w, hw, e, h⟩ | ⟨h, _⟩
    · simp at hw
      rcases hw with rfl | rfl
      · simp at e
      · exact h
    · exact absurd rfl (h ⟨5, x8⟩ (by simp))
  have eh : homes ⟨t, [], -1, false⟩ = (List.range (t.length - t.length / 4)).map fun i => got ⟨t, [], -1, false⟩ (((t.length / 4 : Nat) : Int) + (i : Nat)) := rfl
  have hl := homes_len ⟨t, [], -1, false⟩
  unfold lg at hl
  dsimp only at hl ⊢
  rw [← eh]
  generalize homes ⟨t, [], -1, false⟩ = H at e2 e5 hl
  have hl : H.length = 30 := by omega
  refine gs ?_
  refine br (fun k1 => ?_) (fun k1 => ?_)
  · have q7 : fitsB ⟨t, [], -1, false⟩ 7 = true := by
      simp only [fitsB, Bool.and_eq_true, decide_eq_true_eq]; omega
    have q8 : fitsB ⟨t, [], -1, false⟩ 8 = false := by
      rw [Bool.eq_false_iff]
      simp only [fitsB, ne_eq, Bool.and_eq_true, decide_eq_true_eq]; omega
    refine gs ?_
    rw [e2]
    refine cd (h7) ?_
    refine gs ?_
    rw [e5]
    refine cd (h8) ?_
    refine gs ?_
    refine cd (logL ⟨t, [], -1, false⟩ (by dsimp only; omega)) ?_
    refine gs ?_
    refine br (fun k2 => ?_) (fun k2 => ?_)
    · refine gs ?_
      refine cd (fitsL ⟨t, [], -1, false⟩ 7 (by dsimp only; omega)) ?_
      refine gs ?_
      rw [q7]
      refine gs ?_
      refine cd (fitsL ⟨t, [], -1, false⟩ 8 (by dsimp only; omega)) ?_
      refine gs ?_
      first | trivial | (rw [q8])
    · exfalso; omega
  · exfalso; omega
theorem awake_ok : Spec Tryd.prog LL 12 [] (.b true) := by
  obtain ⟨s, f1, f2, f3⟩ := format_clean 40 (by omega)
  exact awake_gen _ _ _ (sector_ok 7) (sector_ok 8) (by simp) (by simp) (new_ok 40 (by omega) (by omega)) (by simp [newD]) (by unfold Small newD; dsimp only; omega) s f1 f2 f3
theorem again_gen (x9 : List UInt8) (h9 : Spec Tryd.prog LL 28 [.n .u8 9] (.s x9)) (l9 : x9.length = 256) (n : UInt8) (first : List Wr) (fall : Fall) (h1 : first.length ≤ 100000000000000) (h2 : fall.fuse < 65536) : Spec Tryd.prog LL 6 [.n .u8 (n.toNat : Int), .sl 2 Wr ⟨0, []⟩ first eWr, eFall fall] (.b true) := by
  refine spec_of (C := ⟨Tryd.prog, LL, EE, []⟩) (rl := [.b true]) (rs := [.tmp 6]) CCx LLs Tryd.func6 rfl (by kernel_rfl) rfl (by kernel_rfl) (Nat.le_of_ble_eq_true rfl) (fun i => rfl) (fun i => rfl) rfl (by decide) ?_
  refine gs ?_
  refine cln (ready_ok' n [] (by simp)) (gs ?_) ?_
  · trivial
  refine gs ?_
  obtain ⟨s, e, r1, r2, r3, r4⟩ := ready_clean n.toNat []
  rw [r1]
  dsimp only
  have hcl := r2.fuse fall.fuse
  dsimp only at hcl
  obtain ⟨s', y, e', a1, a2, a3, a4, a5, a6⟩ := again_math hcl (by omega) first fall.fates
  have hsm : Small ⟨s, [], fall.fuse, false⟩ := by unfold Small; dsimp only; omega
  obtain ⟨c1, c2⟩ := commit_small ⟨s, [], fall.fuse, false⟩ first hsm
  dsimp only at c2
  simp only [List.length_nil] at c2
  have hy := a4.n
  dsimp only at hy
  have hw : Wok ⟨y, [], -1, false⟩ [⟨1, x9⟩] := by
    refine ⟨by simp [riseL, lim]; omega, fun w hw => by simp at hw; subst hw; exact l9, by simp, by unfold fitsB; dsimp only; simp; omega⟩
  obtain ⟨t, g1, g2, g3, g4⟩ := commit_whole a4 (by omega) hw
  refine gs ?_
  refine cl (commit_ok ⟨s, [], fall.fuse, false⟩ first (by simp) hsm (by dsimp only; omega) h1) ?_
  refine gs ?_
  refine cl (crash_ok _ fall.fates (-1) (by omega)) ?_
  refine gs ?_
  rw [a1]
  dsimp only
  refine cl (recover_ok ⟨s', [], -1, false⟩ (by simp) (by unfold Small; dsimp only; omega) (by dsimp only; omega)) ?_
  refine gs ?_
  rw [a3]
  dsimp only
  refine cl (recover_ok ⟨y, [], -1, false⟩ (by simp) (by unfold Small; dsimp only; omega) (by dsimp only; omega)) ?_
  refine gs ?_
  rw [recover_clean a4]
  dsimp only
  refine cd (h9) ?_
  refine gs ?_
  refine .inr ?_
  refine cd (commit_ok ⟨y, [], -1, false⟩ [⟨1, x9⟩] (by simp) (by unfold Small; dsimp only; omega) (by dsimp only; omega) (by simp)) ?_
  refine gs ?_
  rw [g1]
  dsimp only
  refine cl (home_ok ⟨t, [], -1, false⟩ (by simp) (ready0 g2.u.1 g2.u.2.1) g2.u.1) ?_
  refine gs ?_
  have e1 : ((homes ⟨t, [], -1, false⟩).getD 1 []) = x9 := by
    rcases g4 1 (by omega) with ⟨w, hw, e, h⟩ | ⟨h, _⟩
    · simp at hw
      subst hw
      exact h
    · exact absurd rfl (h ⟨1, x9⟩ (by simp))
  have eh : homes ⟨t, [], -1, false⟩ = (List.range (t.length - t.length / 4)).map fun i => got ⟨t, [], -1, false⟩ (((t.length / 4 : Nat) : Int) + (i : Nat)) := rfl
  have hl := homes_len ⟨t, [], -1, false⟩
  unfold lg at hl
  dsimp only at hl
  rw [← eh]
  generalize homes ⟨t, [], -1, false⟩ = H at e1 hl
  refine cd (awake_ok) ?_
  refine gs ?_
  refine cd (samed_ok ⟨y, [], -1, false⟩ (by simp) (by dsimp only; omega)) ?_
  refine gs ?_
  refine br (fun k1 => ?_) (fun k1 => ?_)
  · refine gs ?_
    rw [e1]
    refine cd (h9) ?_
    refine gs ?_
    first | trivial | done
  · exfalso; omega
theorem again_ok (n : UInt8) (first : List Wr) (fall : Fall) (h1 : first.length ≤ 100000000000000) (h2 : fall.fuse < 65536) : Spec Tryd.prog LL 6 [.n .u8 (n.toNat : Int), .sl 2 Wr ⟨0, []⟩ first eWr, eFall fall] (.b true) := again_gen _ (sector_ok 9) (by simp) n first fall h1 h2
end Go.Proofs.YtnmaaijeamlplaaDoor.Ev
