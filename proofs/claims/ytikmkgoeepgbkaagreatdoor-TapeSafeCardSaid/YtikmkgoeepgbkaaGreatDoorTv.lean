/- Headers: their parts. -/
import Derived.Test.YtikmkgoeepgbkaaGreatDoorTu
import Derived.Test.YtikmkgoeepgbkaaGreatDoorEly
import Derived.Test.YtikmkgoeepgbkaaGreatDoorKD
set_option linter.all false
namespace Go.Proofs.YtikmkgoeepgbkaaGreatDoor.Ev
open Go.RowKit
open Go.Proofs.YtikmkgoeepgbkaaGreatDoor.Mem
set_option linter.unusedVariables false
set_option linter.unusedSimpArgs false
set_option maxRecDepth 100000
theorem rep0 (k : Nat) : Lib.repeatL [0] k = List.replicate k (0 : UInt8) := by
  induction k with
  | zero => rfl
  | succ k ih => rw [Lib.repeatL, ih, List.replicate_succ]; rfl
theorem cBd : ∀ c : UInt8, cB (.n .u8 (c.toNat : Int)) = c := fun c => by simp [cB]
theorem gh {p q : Prop} (hq : q) (h : p ↔ q := by simp (config := { maxSteps := 10000000 }) (disch := omega) only [cBd, edr, eod, false_and, and_false, fxM, cSd, wrc, eRd, eEd, eMd, eBd, eEE, rDs, eok, true_implies, eo5, ev5, Nat.mul_one, Nat.zero_mul, Nat.one_mul, Nat.add_zero, lenl, bne_self_eq_false, Int.reduceLT, Int.reduceLE, Int.reduceEq, Int.reduceNe, Int.reduceAdd, Int.reduceSub, Int.reduceMul, Int.reduceNeg, ebr, wr64, sdl, ler, true_or, or_true, rng, List.length_map, List.length_range, List.length_append, List.length_replicate, List.length_set, List.length_take, List.length_drop, List.not_mem_nil, false_implies, implies_true, ↓ec, ↓eg, ↓eo, ↓eox, ↓es, ↓et1, em, emR, efz, enl, ebx, ebt, et, ev, List.drop_nil, Option.some.injEq, Option.isSome_none, Int.reduceToNat, List.replicate_zero, Bool.or_self, ez, ef, ebd, et2, Int.toNat_natCast, Option.map_none, Option.map_some, List.all_cons, List.all_nil, Bool.and_self, List.cons_append, List.nil_append, List.append_nil, List.append_assoc, ep, ew, Option.isSome_some, id_eq, Nat.reduceLT, Nat.reduceSub, Bool.false_or, Bool.true_or, Bool.or_true, Bool.true_and, Bool.and_true, reduceCtorEq, Nat.reduceBEq, Bool.true_eq_false, Bool.false_eq_true, List.map_cons, List.map_nil, List.take_succ_cons, List.take_zero, List.drop_succ_cons, List.drop_zero, List.length_cons, List.length_nil, Nat.zero_add, Nat.reduceAdd, Nat.reduceLeDiff, Bool.not_true, Bool.not_false, List.getElem?_cons_succ, List.getElem?_cons_zero, Option.bind_some, ne_eq, not_false_eq_true, ↓eh1, eh, en, List.getD_cons_zero, List.getD_cons_succ, Nat.reduceEqDiff, ↓reduceIte, cond_true, cond_false, Bool.or_false, decide_true, decide_false, true_and, and_true, decide_eq_true_eq, decide_eq_false_iff_not, Bool.not_eq_true', Bool.not_eq_false', not_true_eq_false, Decidable.not_not]; exact Iff.rfl) : p := h.2 hq
theorem hfill_ok (s : List UInt8) (w : Nat) (h : s.length ≤ w) (hw : w ≤ 100000) : Spec Tryz.prog LL 82 [.s s, .n .i64 (w : Int)] (.s (padM s w)) := by
  refine spec_of (C := ⟨Tryz.prog, LL, EE, []⟩) (rl := [.s (padM s w)]) (rs := [.tmp 4]) CCx LLs Tryz.func82 rfl (by kernel_rfl) rfl (by kernel_rfl) (Nat.le_of_ble_eq_true rfl) (fun i => rfl) (fun i => by first | rfl | exact (Bool.or_false _).trans (eSd_men _ _)) rfl (by decide) ?_
  refine gh ?_
  rw [show (w : Int) - (s.length : Int) = ((w - s.length : Nat) : Int) by omega]
  refine cl (repeat_ok [0] (w - s.length) (by omega) (by simp; omega)) ?_
  refine gh ?_
  rw [rep0]
  exact ⟨by simp; omega, rfl⟩
theorem hfits_ok (s : List UInt8) (w : Nat) (hw : w ≤ 100000) (hs : s.length ≤ 281474976710656) : Spec Tryz.prog LL 107 [.s s, .n .i64 (w : Int)] (.b (fitsB s w)) := by
  refine spec_of (C := ⟨Tryz.prog, LL, EE, []⟩) (rl := [.b (fitsB s w)]) (rs := [.tmp 4]) CCx LLs Tryz.func107 rfl (by kernel_rfl) rfl (by kernel_rfl) (Nat.le_of_ble_eq_true rfl) (fun i => rfl) (fun i => by first | rfl | exact (Bool.or_false _).trans (eSd_men _ _)) rfl (by decide) ?_
  refine gh ?_
  refine br (fun c => ?_) (fun c => ?_)
  · try refine gh ?_
    refine cl (ib_ok s 0) ?_
    refine gh ?_
    rw [fitsB, decide_eq_true (show s.length ≤ w by omega), Bool.true_and]
  · try refine gh ?_
    rw [fitsB, decide_eq_false (show ¬ s.length ≤ w by omega), Bool.false_and]
theorem hsum_ok (s : List UInt8) (hs : s.length ≤ 281474976710656) : Spec Tryz.prog LL 85 [.s s] (.n .i64 (sumM s : Int)) := by
  refine spec_of (C := ⟨Tryz.prog, LL, EE, []⟩) (rl := [.n .i64 (sumM s : Int)]) (rs := [.tmp 2]) CCx LLs Tryz.func85 rfl (by kernel_rfl) rfl (by kernel_rfl) (Nat.le_of_ble_eq_true rfl) (fun i => rfl) (fun i => by first | rfl | exact (Bool.or_false _).trans (eSd_men _ _)) rfl (by decide) ?_
  refine gh ?_
  refine br (fun c => ?_) (fun c => ?_)
  · try refine gh ?_
    rw [sumM, if_neg (by omega)]
    rfl
  · have hl : s.length = 512 := by omega
    try refine gh ?_
    refine lp_hd [0] [] (fun x : Nat × Nat => [(3, .n .i64 (x.2 : Int)), (4, .n .i64 (x.1 : Int))]) (fun x : Nat × Nat => []) (fun x : Nat × Nat => x.1 ≤ 512 ∧ sumL s 0 = x.2 + sumL (s.drop x.1) x.1 ∧ x.2 ≤ 255 * x.1) (fun x : Nat × Nat => 512 - x.1) ((0, 0)) id (id) ⟨by decide, by simp, by decide⟩ (fits_of (gh ?_) (gh ?_) (gh ?_) (gh ?_) (gh ?_)) ?_
    · first | exact True.intro | exact ⟨rfl, rfl⟩ | exact ⟨rfl, rfl, rfl⟩ | rfl | exact rowc (List.map_id _) | trivial
    · first | exact True.intro | exact ⟨rfl, rfl⟩ | exact ⟨rfl, rfl, rfl⟩ | rfl | exact rowc (List.map_id _) | trivial
    · first | exact True.intro | exact ⟨rfl, rfl⟩ | exact ⟨rfl, rfl, rfl⟩ | rfl | exact rowc (List.map_id _) | trivial
    · first | exact True.intro | exact ⟨rfl, rfl⟩ | exact ⟨rfl, rfl, rfl⟩ | rfl | exact rowc (List.map_id _) | trivial
    · first | exact True.intro | exact ⟨rfl, rfl⟩ | exact ⟨rfl, rfl, rfl⟩ | rfl | exact rowc (List.map_id _) | trivial
    rintro ⟨i, a⟩ ⟨hi, ha, hb⟩
    dsimp only at hi ha hb ⊢
    try refine gh ?_
    refine br (fun e => ?_) (fun e => ?_)
    · have hd := drop_at s i 0 (by omega)
      rw [hd, sumL] at ha
      have hy := by_lt s i
      have hy2 : (s.getD i 0).toNat = by' s i := rfl
      rw [hy2] at ha
      try refine gh ?_
      refine br (fun f => ?_) (fun f => ?_)
      · try refine gh ?_
        refine br (fun g => ?_) (fun g => ?_)
        · rw [if_pos (by omega)] at ha
          try refine gh ?_
          refine ⟨(i + 1, a + 32), ⟨by dsimp only; omega, by rw [ha, Nat.add_assoc], by dsimp only; omega⟩, (by dsimp only; omega), fits_of (gh ?_) (gh ?_) (gh ?_) (gh ?_) (gh ?_)⟩
          · first | exact True.intro | exact ⟨rfl, rfl⟩ | exact ⟨rfl, rfl, rfl⟩ | rfl | exact rowc (List.map_id _) | trivial
          · first | exact True.intro | exact ⟨rfl, rfl⟩ | exact ⟨rfl, rfl, rfl⟩ | rfl | exact rowc (List.map_id _) | trivial
          · first | exact True.intro | exact ⟨rfl, rfl⟩ | exact ⟨rfl, rfl, rfl⟩ | rfl | exact rowc (List.map_id _) | trivial
          · first | exact True.intro | exact ⟨rfl, rfl⟩ | exact ⟨rfl, rfl, rfl⟩ | rfl | exact rowc (List.map_id _) | trivial
          · first | exact True.intro | exact ⟨rfl, rfl⟩ | exact ⟨rfl, rfl, rfl⟩ | rfl | exact rowc (List.map_id _) | trivial
        · rw [if_neg (by omega)] at ha
          try refine gh ?_
          refine ⟨(i + 1, a + by' s i), ⟨by dsimp only; omega, by rw [ha, Nat.add_assoc], by dsimp only; omega⟩, (by dsimp only; omega), fits_of (gh ?_) (gh ?_) (gh ?_) (gh ?_) (gh ?_)⟩
          · first | exact True.intro | exact ⟨rfl, rfl⟩ | exact ⟨rfl, rfl, rfl⟩ | rfl | exact rowc (List.map_id _) | trivial
          · first | exact True.intro | exact ⟨rfl, rfl⟩ | exact ⟨rfl, rfl, rfl⟩ | rfl | exact rowc (List.map_id _) | trivial
          · first | exact True.intro | exact ⟨rfl, rfl⟩ | exact ⟨rfl, rfl, rfl⟩ | rfl | exact rowc (List.map_id _) | trivial
          · first | exact True.intro | exact ⟨rfl, rfl⟩ | exact ⟨rfl, rfl, rfl⟩ | rfl | exact rowc (List.map_id _) | trivial
          · first | exact True.intro | exact ⟨rfl, rfl⟩ | exact ⟨rfl, rfl, rfl⟩ | rfl | exact rowc (List.map_id _) | trivial
      · rw [if_neg (by omega)] at ha
        try refine gh ?_
        refine ⟨(i + 1, a + by' s i), ⟨by dsimp only; omega, by rw [ha, Nat.add_assoc], by dsimp only; omega⟩, (by dsimp only; omega), fits_of (gh ?_) (gh ?_) (gh ?_) (gh ?_) (gh ?_)⟩
        · first | exact True.intro | exact ⟨rfl, rfl⟩ | exact ⟨rfl, rfl, rfl⟩ | rfl | exact rowc (List.map_id _) | trivial
        · first | exact True.intro | exact ⟨rfl, rfl⟩ | exact ⟨rfl, rfl, rfl⟩ | rfl | exact rowc (List.map_id _) | trivial
        · first | exact True.intro | exact ⟨rfl, rfl⟩ | exact ⟨rfl, rfl, rfl⟩ | rfl | exact rowc (List.map_id _) | trivial
        · first | exact True.intro | exact ⟨rfl, rfl⟩ | exact ⟨rfl, rfl, rfl⟩ | rfl | exact rowc (List.map_id _) | trivial
        · first | exact True.intro | exact ⟨rfl, rfl⟩ | exact ⟨rfl, rfl, rfl⟩ | rfl | exact rowc (List.map_id _) | trivial
    · try refine gh ?_
      rw [List.drop_eq_nil_of_le (by omega), sumL] at ha
      rw [sumM, if_pos hl, ha]
      rfl
theorem hcut_ok (s : List UInt8) (hs : s.length < 4294967281) : Spec Tryz.prog LL 86 [.s s] (.s (cutM s)) := by
  refine spec_of (C := ⟨Tryz.prog, LL, EE, []⟩) (rl := [.s (cutM s)]) (rs := [.tmp 2]) CCx LLs Tryz.func86 rfl (by kernel_rfl) rfl (by kernel_rfl) (Nat.le_of_ble_eq_true rfl) (fun i => rfl) (fun i => by first | rfl | exact (Bool.or_false _).trans (eSd_men _ _)) rfl (by decide) ?_
  refine gh ?_
  refine cl (scut_ok s [0] hs) ?_
  refine gh ?_
  rfl
def blnkH (s : List UInt8) : Bool := decide (s = List.replicate 512 0)
theorem hblank_ok (s : List UInt8) (hs : s.length ≤ 281474976710656) : Spec Tryz.prog LL 54 [.s s] (.b (blnkH s)) := by
  refine spec_of (C := ⟨Tryz.prog, LL, EE, []⟩) (rl := [.b (blnkH s)]) (rs := [.tmp 2]) CCx LLs Tryz.func54 rfl (by kernel_rfl) rfl (by kernel_rfl) (Nat.le_of_ble_eq_true rfl) (fun i => rfl) (fun i => by first | rfl | exact (Bool.or_false _).trans (eSd_men _ _)) rfl (by decide) ?_
  refine gh ?_
  refine cl (hfill_ok [] 512 (by simp) (by omega)) ?_
  refine gh ?_
  trivial
end Go.Proofs.YtikmkgoeepgbkaaGreatDoor.Ev
