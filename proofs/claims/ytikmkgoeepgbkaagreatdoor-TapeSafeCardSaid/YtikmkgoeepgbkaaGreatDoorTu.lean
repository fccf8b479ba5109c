/- Numbers are put into fields. -/
import Derived.Test.YtikmkgoeepgbkaaGreatDoorTh
set_option linter.all false
namespace Go.Proofs.YtikmkgoeepgbkaaGreatDoor.Ev
open Go.RowKit
open Go.Proofs.YtikmkgoeepgbkaaGreatDoor.Mem
set_option linter.unusedVariables false
set_option linter.unusedSimpArgs false
set_option maxRecDepth 100000
theorem dvS : (∀ a : Nat, (a : Int).fdiv (2 ^ min 8 IntKind.i64.bits) = ((a / 256 : Nat) : Int)) := fun a => by
  show (a : Int).fdiv 256 = _
  rw [Int.fdiv_eq_ediv_of_nonneg _ (by omega)]
  rfl
theorem byt_byte (a : Nat) : cB (V.n IntKind.u8 (IntKind.u8.wrap (a : Int))) = UInt8.ofNat a := by
  show UInt8.ofNat (IntKind.u8.wrap (a : Int)).toNat = _
  have : IntKind.u8.wrap (a : Int) = ((a % 256 : Nat) : Int) := by simp [IntKind.wrap, IntKind.bits, IntKind.signed]
  rw [this, Int.toNat_natCast]
  apply UInt8.toNat_inj.1
  rw [UInt8.toNat_ofNat', UInt8.toNat_ofNat']
  omega
theorem bytD_hd : ∀ d n, bytD (d + 1) n = UInt8.ofNat (n / 256 ^ d) :: bytD d n
  | 0, n => by simp [bytD]
  | d + 1, n => by
    rw [bytD, bytD_hd d (n / 256), bytD, Nat.div_div_eq_div_mul, Nat.mul_comm 256, ← Nat.pow_succ]
    rfl
theorem set_in2 (z : UInt8) (k : Nat) (x y : UInt8) (l : List UInt8) (i : Nat) (h : i = k + 1) : (z :: (List.replicate (k + 1) x ++ l)).set i y = z :: (List.replicate k x ++ y :: l) := by
  subst h
  rw [List.set_cons_succ, set_in k x y l k rfl]
theorem gu {p q : Prop} (hq : q) (h : p ↔ q := by simp (config := { maxSteps := 10000000 }) (disch := omega) only [dvS, fxM, cSd, wrc, eRd, eEd, eMd, eBd, eEE, rDs, eok, true_implies, eo5, ev5, Nat.mul_one, Nat.zero_mul, Nat.one_mul, Nat.add_zero, lenl, bne_self_eq_false, Int.reduceLT, Int.reduceLE, Int.reduceEq, Int.reduceNe, Int.reduceAdd, Int.reduceSub, Int.reduceMul, Int.reduceNeg, ebr, wr64, sdl, ler, true_or, or_true, rng, List.length_map, List.length_range, List.length_append, List.length_replicate, List.length_set, List.length_take, List.length_drop, List.not_mem_nil, false_implies, implies_true, ↓ec, ↓eg, ↓eo, ↓eox, ↓es, ↓et1, em, emR, efz, enl, ebx, ebt, et, ev, List.drop_nil, Option.some.injEq, Option.isSome_none, Int.reduceToNat, List.replicate_zero, Bool.or_self, ez, ef, ebd, et2, Int.toNat_natCast, Option.map_none, Option.map_some, List.all_cons, List.all_nil, Bool.and_self, List.cons_append, List.nil_append, List.append_nil, List.append_assoc, ep, ew, Option.isSome_some, id_eq, Nat.reduceLT, Nat.reduceSub, Bool.false_or, Bool.true_or, Bool.or_true, Bool.true_and, Bool.and_true, reduceCtorEq, Nat.reduceBEq, Bool.true_eq_false, Bool.false_eq_true, List.map_cons, List.map_nil, List.take_succ_cons, List.take_zero, List.drop_succ_cons, List.drop_zero, List.length_cons, List.length_nil, Nat.zero_add, Nat.reduceAdd, Nat.reduceLeDiff, Bool.not_true, Bool.not_false, List.getElem?_cons_succ, List.getElem?_cons_zero, Option.bind_some, ne_eq, not_false_eq_true, ↓eh1, eh, en, List.getD_cons_zero, List.getD_cons_succ, Nat.reduceEqDiff, ↓reduceIte, cond_true, cond_false, Bool.or_false, decide_true, decide_false, true_and, and_true, decide_eq_true_eq, decide_eq_false_iff_not, Bool.not_eq_true', Bool.not_eq_false', not_true_eq_false, Decidable.not_not]; exact Iff.rfl) : p := h.2 hq
theorem put_ok (n w : Nat) (hw : w = 8 ∨ w = 12) (hn : n < 9223372036854775808) : Spec Tryz.prog LL 108 [.n .i64 (n : Int), .n .i64 (w : Int)] (.tp [.s (putM n w).1, .n .i64 (putM n w).2]) := by
  refine spec_of (C := ⟨Tryz.prog, LL, EE, []⟩) (rl := [.s (putM n w).1, .n .i64 (putM n w).2]) (rs := [.tmp 4, .tmp 5]) CCx LLs Tryz.func108 rfl (by kernel_rfl) rfl (by kernel_rfl) (Nat.le_of_ble_eq_true rfl) (fun i => rfl) (fun i => by first | rfl | exact (Bool.or_false _).trans (eSd_men _ _)) rfl (by decide) ?_
  refine gu ?_
  refine br (fun a => ?_) (fun a => ?_)
  · try refine gu ?_
    refine br (fun b => ?_) (fun b => ?_)
    · try refine gu ?_
      refine br (fun c => ?_) (fun c => ?_)
      · exfalso; omega
      · try refine gu ?_
        rw [show (w : Int) - 1 = ((w - 1 : Nat) : Int) by omega]
        refine cl (octal_ok n (w - 1) (by omega) hn) ?_
        refine gu ?_
        have h8 : n / 8 ^ (w - 1) = 0 ↔ n < 8 ^ (w - 1) := Nat.div_eq_zero_iff_lt (Nat.pow_pos (by omega))
        have h256 : n / 256 ^ (w - 1) = 0 ↔ n < 256 ^ (w - 1) := Nat.div_eq_zero_iff_lt (Nat.pow_pos (by omega))
        refine br (fun d => ?_) (fun d => ?_)
        · try refine gu ?_
          rw [show putM n w = (octD (w - 1) n ++ [0], 0) from if_pos (h8.1 d)]
          exact ⟨by rw [octD_len]; omega, rfl, rfl⟩
        · have hp : putM n w = if n < 256 ^ (w - 1) then (128 :: bytD (w - 1) n, 0) else ([], 3) := if_neg fun h => d (h8.2 h)
          rw [hp]
          try refine gu ?_
          have h0 : (List.replicate w (0 : UInt8)).set 0 (cB (V.n IntKind.u8 128)) = 128 :: (List.replicate (w - 1 - 0) 0 ++ bytD 0 n) := by
            obtain ⟨j, rfl⟩ : ∃ j, w = j + 1 := ⟨w - 1, by omega⟩
            rw [List.replicate_succ, List.set_cons_zero, bytD, List.append_nil]
            rfl
          refine ⟨rfl, okB 128, ?_⟩
          refine lp_hd [] [] (fun k : Nat => [(0, .n .i64 ((n / 256 ^ k : Nat) : Int)), (8, .ow 31 w), (9, .n .i64 (((w - 1 - k : Nat) : Nat) : Int))]) (fun k : Nat => [(31, rB (128 :: (List.replicate (w - 1 - k) 0 ++ bytD k n)))]) (fun k : Nat => k ≤ w - 1) (fun k : Nat => w - 1 - k) (0) id (id) (Nat.zero_le _) (fits_of (gu ?_) (gu ?_) (gu ?_) (gu ?_) (gu ?_)) ?_
          · first | exact True.intro | exact ⟨rfl, rfl⟩ | exact ⟨rfl, rfl, rfl⟩ | rfl | exact rowc (List.map_id _) | trivial
          · (rw [show ((w - 1 - 0 : Nat) : Int) = (w : Int) - 1 by omega, Nat.pow_zero, Nat.div_one]; first | exact ⟨rfl, rfl, rfl⟩ | exact ⟨rfl, rfl⟩ | rfl)
          · first | exact True.intro | exact ⟨rfl, rfl⟩ | exact ⟨rfl, rfl, rfl⟩ | rfl | exact rowc (List.map_id _) | trivial
          · exact rowc h0
          · first | exact True.intro | exact ⟨rfl, rfl⟩ | exact ⟨rfl, rfl, rfl⟩ | rfl | exact rowc (List.map_id _) | trivial
          rintro k hk
          try refine gu ?_
          refine br (fun e => ?_) (fun e => ?_)
          · try refine gu ?_
            refine ⟨⟨by rw [bytD_len]; omega, by rw [bytD_len]; omega⟩, ?_⟩
            refine ⟨k + 1, (by omega), (by omega), fits_of (gu ?_) (gu ?_) (gu ?_) (gu ?_) (gu ?_)⟩
            · first | exact True.intro | exact ⟨rfl, rfl⟩ | exact ⟨rfl, rfl, rfl⟩ | rfl | exact rowc (List.map_id _) | trivial
            · (rw [Nat.div_div_eq_div_mul, ← Nat.pow_succ, show ((w - 1 - k : Nat) : Int) - 1 = ((w - 1 - (k + 1) : Nat) : Int) by omega]; first | exact ⟨rfl, rfl⟩ | rfl)
            · first | exact True.intro | exact ⟨rfl, rfl⟩ | exact ⟨rfl, rfl, rfl⟩ | rfl | exact rowc (List.map_id _) | trivial
            · exact rowc (by rw [show w - 1 - k = (w - 1 - (k + 1)) + 1 by omega, set_in2 _ _ _ _ _ _ rfl, byt_byte, ← bytD_hd])
            · first | exact True.intro | exact ⟨rfl, rfl⟩ | exact ⟨rfl, rfl, rfl⟩ | rfl | exact rowc (List.map_id _) | trivial
          · obtain rfl : k = w - 1 := by omega
            try refine gu ?_
            refine br (fun f => ?_) (fun f => ?_)
            · try refine gu ?_
              rw [if_neg fun h => f (by rw [h256.2 h]; rfl)]
              exact ⟨rfl, rfl⟩
            · rw [if_pos (h256.1 (by omega))]
              try refine gu ?_
              rw [if_pos (by rw [bytD_len]; omega), Nat.sub_self, List.replicate_zero, List.nil_append]
              refine cvB (t := 5) (by kernel_rfl) (by kernel_rfl) (by kernel_rfl) ?_
              try refine gu ?_
              trivial
    · try refine gu ?_
      rw [show (w : Int) - 1 = ((w - 1 : Nat) : Int) by omega]
      refine cl (octal_ok n (w - 1) (by omega) hn) ?_
      refine gu ?_
      have h8 : n / 8 ^ (w - 1) = 0 ↔ n < 8 ^ (w - 1) := Nat.div_eq_zero_iff_lt (Nat.pow_pos (by omega))
      have h256 : n / 256 ^ (w - 1) = 0 ↔ n < 256 ^ (w - 1) := Nat.div_eq_zero_iff_lt (Nat.pow_pos (by omega))
      refine br (fun d => ?_) (fun d => ?_)
      · try refine gu ?_
        rw [show putM n w = (octD (w - 1) n ++ [0], 0) from if_pos (h8.1 d)]
        exact ⟨by rw [octD_len]; omega, rfl, rfl⟩
      · have hp : putM n w = if n < 256 ^ (w - 1) then (128 :: bytD (w - 1) n, 0) else ([], 3) := if_neg fun h => d (h8.2 h)
        rw [hp]
        try refine gu ?_
        have h0 : (List.replicate w (0 : UInt8)).set 0 (cB (V.n IntKind.u8 128)) = 128 :: (List.replicate (w - 1 - 0) 0 ++ bytD 0 n) := by
          obtain ⟨j, rfl⟩ : ∃ j, w = j + 1 := ⟨w - 1, by omega⟩
          rw [List.replicate_succ, List.set_cons_zero, bytD, List.append_nil]
          rfl
        refine ⟨rfl, okB 128, ?_⟩
        refine lp_hd [] [] (fun k : Nat => [(0, .n .i64 ((n / 256 ^ k : Nat) : Int)), (8, .ow 31 w), (9, .n .i64 (((w - 1 - k : Nat) : Nat) : Int))]) (fun k : Nat => [(31, rB (128 :: (List.replicate (w - 1 - k) 0 ++ bytD k n)))]) (fun k : Nat => k ≤ w - 1) (fun k : Nat => w - 1 - k) (0) id (id) (Nat.zero_le _) (fits_of (gu ?_) (gu ?_) (gu ?_) (gu ?_) (gu ?_)) ?_
        · first | exact True.intro | exact ⟨rfl, rfl⟩ | exact ⟨rfl, rfl, rfl⟩ | rfl | exact rowc (List.map_id _) | trivial
        · (rw [show ((w - 1 - 0 : Nat) : Int) = (w : Int) - 1 by omega, Nat.pow_zero, Nat.div_one]; first | exact ⟨rfl, rfl, rfl⟩ | exact ⟨rfl, rfl⟩ | rfl)
        · first | exact True.intro | exact ⟨rfl, rfl⟩ | exact ⟨rfl, rfl, rfl⟩ | rfl | exact rowc (List.map_id _) | trivial
        · exact rowc h0
        · first | exact True.intro | exact ⟨rfl, rfl⟩ | exact ⟨rfl, rfl, rfl⟩ | rfl | exact rowc (List.map_id _) | trivial
        rintro k hk
        try refine gu ?_
        refine br (fun e => ?_) (fun e => ?_)
        · try refine gu ?_
          refine ⟨⟨by rw [bytD_len]; omega, by rw [bytD_len]; omega⟩, ?_⟩
          refine ⟨k + 1, (by omega), (by omega), fits_of (gu ?_) (gu ?_) (gu ?_) (gu ?_) (gu ?_)⟩
          · first | exact True.intro | exact ⟨rfl, rfl⟩ | exact ⟨rfl, rfl, rfl⟩ | rfl | exact rowc (List.map_id _) | trivial
          · (rw [Nat.div_div_eq_div_mul, ← Nat.pow_succ, show ((w - 1 - k : Nat) : Int) - 1 = ((w - 1 - (k + 1) : Nat) : Int) by omega]; first | exact ⟨rfl, rfl⟩ | rfl)
          · first | exact True.intro | exact ⟨rfl, rfl⟩ | exact ⟨rfl, rfl, rfl⟩ | rfl | exact rowc (List.map_id _) | trivial
          · exact rowc (by rw [show w - 1 - k = (w - 1 - (k + 1)) + 1 by omega, set_in2 _ _ _ _ _ _ rfl, byt_byte, ← bytD_hd])
          · first | exact True.intro | exact ⟨rfl, rfl⟩ | exact ⟨rfl, rfl, rfl⟩ | rfl | exact rowc (List.map_id _) | trivial
        · obtain rfl : k = w - 1 := by omega
          try refine gu ?_
          refine br (fun f => ?_) (fun f => ?_)
          · try refine gu ?_
            rw [if_neg fun h => f (by rw [h256.2 h]; rfl)]
            exact ⟨rfl, rfl⟩
          · rw [if_pos (h256.1 (by omega))]
            try refine gu ?_
            rw [if_pos (by rw [bytD_len]; omega), Nat.sub_self, List.replicate_zero, List.nil_append]
            refine cvB (t := 5) (by kernel_rfl) (by kernel_rfl) (by kernel_rfl) ?_
            try refine gu ?_
            trivial
  · exfalso; omega
end Go.Proofs.YtikmkgoeepgbkaaGreatDoor.Ev
