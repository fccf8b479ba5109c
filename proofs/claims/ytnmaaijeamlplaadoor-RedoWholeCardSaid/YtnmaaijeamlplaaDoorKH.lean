/- The document's disks: new ones, crashes, which are the same. -/
import Derived.Test.YtnmaaijeamlplaaDoorKG
set_option linter.all false
namespace Go.Proofs.YtnmaaijeamlplaaDoor.Ev
open Go.RowKit
open Go.Proofs.YtnmaaijeamlplaaDoor.Mem
set_option linter.unusedVariables false
set_option linter.unusedSimpArgs false
set_option maxRecDepth 100000
theorem wrc : ∀ c : UInt8, IntKind.wrap .i64 (c.toNat : Int) = (c.toNat : Int) := fun c => wr64 (by omega) (by have := c.toNat_lt; omega)
theorem tmn : (∀ a b : Nat, (a : Int).tmod ((b : Int) + 1) = ((a % (b + 1) : Nat) : Int)) ∧ (∀ a : Nat, (a : Int).tmod 64 = ((a % 64 : Nat) : Int)) := ⟨fun a b => rfl, fun a => rfl⟩
theorem ebd2 : plc Tryd.prog 25 = some [(0, 1), (1, 1), (2, 1), (3, 1)] := by kernel_rfl
theorem gr {p q : Prop} (hq : q) (h : p ↔ q := by simp (config := { maxSteps := 10000000 }) (disch := omega) only [ebd2, wrc, tmn, nb_len, sha_len, cSd, tdq, cDd, true_implies, lenl, bne_self_eq_false, Int.reduceLT, Int.reduceLE, Int.reduceEq, Int.reduceNe, Int.reduceAdd, Int.reduceSub, Int.reduceMul, Int.reduceNeg, ebr, wr64, sdl, ler, true_or, or_true, rng, eok, List.length_map, List.length_range, List.length_append, List.length_replicate, List.length_set, List.length_take, List.length_drop, List.not_mem_nil, false_implies, implies_true, ↓ec, ↓eg, ↓eo, ↓eox, ↓es, ↓et1, em, emR, efz, enl, ebt, et, ev, fx, fx2, dk, ewr, odk, eBd, List.drop_nil, eEE, Option.some.injEq, Option.isSome_none, Int.reduceToNat, List.replicate_zero, Bool.or_self, rSd, rWd, ez, ef, ebd, et2, Int.toNat_natCast, Option.map_none, Option.map_some, List.all_cons, List.all_nil, Bool.and_self, List.cons_append, List.nil_append, List.append_nil, List.append_assoc, ep, ew, Option.isSome_some, id_eq, Nat.reduceLT, Nat.reduceSub, Bool.false_or, Bool.true_or, Bool.or_true, Bool.true_and, Bool.and_true, reduceCtorEq, Nat.reduceBEq, Bool.true_eq_false, Bool.false_eq_true, List.map_cons, List.map_nil, List.take_succ_cons, List.take_zero, List.drop_succ_cons, List.drop_zero, List.length_cons, List.length_nil, Nat.zero_add, Nat.reduceAdd, Nat.reduceLeDiff, Bool.not_true, Bool.not_false, List.getElem?_cons_succ, List.getElem?_cons_zero, Option.bind_some, ne_eq, not_false_eq_true, ↓eh1, eh, en, List.getD_cons_zero, List.getD_cons_succ, Nat.reduceEqDiff, ↓reduceIte, cond_true, cond_false, Bool.or_false, decide_true, decide_false, true_and, and_true, decide_eq_true_eq, decide_eq_false_iff_not, Bool.not_eq_true', Bool.not_eq_false', not_true_eq_false, Decidable.not_not]; exact Iff.rfl) : p := h.2 hq
theorem blank_ok  : Spec Tryd.prog LL 64 [] (.s (List.replicate 256 0)) := by
  refine spec_of (C := ⟨Tryd.prog, LL, EE, []⟩) (rl := [.s (List.replicate 256 0)]) (rs := [.tmp 0]) CCx LLs Tryd.func64 rfl (by kernel_rfl) rfl (by kernel_rfl) (Nat.le_of_ble_eq_true rfl) (fun i => rfl) (fun i => rfl) rfl (by decide) ?_
  refine gr ?_
  refine lp_hd [] [] (fun k : Nat => [(1, .s (List.replicate (2 ^ k) 0))]) (fun k : Nat => []) (fun k : Nat => k ≤ 8) (fun k : Nat => 8 - k) (0) id (id) (by omega) (fits_of (gr ?_) (gr ?_) (gr ?_) (gr ?_) (gr ?_)) ?_
  · first | trivial | rfl | exact ⟨rfl, rfl⟩ | exact ⟨rfl, rfl, rfl⟩ | exact rowc (List.map_id _)
  · first | trivial | rfl | exact ⟨rfl, rfl⟩ | exact ⟨rfl, rfl, rfl⟩ | exact rowc (List.map_id _)
  · first | trivial | rfl | exact ⟨rfl, rfl⟩ | exact ⟨rfl, rfl, rfl⟩ | exact rowc (List.map_id _)
  · first | trivial | rfl | exact ⟨rfl, rfl⟩ | exact ⟨rfl, rfl, rfl⟩ | exact rowc (List.map_id _)
  · first | trivial | rfl | exact ⟨rfl, rfl⟩ | exact ⟨rfl, rfl, rfl⟩ | exact rowc (List.map_id _)
  rintro k hk
  have hp : 2 ^ k ≤ 2 ^ 8 := Nat.pow_le_pow_right (by omega) hk
  refine gr ?_
  refine br (fun h => ?_) (fun h => ?_)
  · have h8 : k < 8 := by
      rcases (show k < 8 ∨ k = 8 by omega) with h' | rfl
      · exact h'
      · simp at h
    refine gr ?_
    refine ⟨k + 1, (by omega), (by omega), fits_of (gr ?_) (gr ?_) (gr ?_) (gr ?_) (gr ?_)⟩
    · first | trivial | rfl | exact ⟨rfl, rfl⟩ | exact ⟨rfl, rfl, rfl⟩ | exact rowc (List.map_id _)
    · rw [List.replicate_append_replicate, Nat.pow_succ, Nat.mul_two]
    · first | trivial | rfl | exact ⟨rfl, rfl⟩ | exact ⟨rfl, rfl, rfl⟩ | exact rowc (List.map_id _)
    · first | trivial | rfl | exact ⟨rfl, rfl⟩ | exact ⟨rfl, rfl, rfl⟩ | exact rowc (List.map_id _)
    · first | trivial | rfl | exact ⟨rfl, rfl⟩ | exact ⟨rfl, rfl, rfl⟩ | exact rowc (List.map_id _)
  · refine gr ?_
    have : k = 8 := by
      rcases (show k = 0 ∨ k = 1 ∨ k = 2 ∨ k = 3 ∨ k = 4 ∨ k = 5 ∨ k = 6 ∨ k = 7 ∨ k = 8 by omega) with rfl | rfl | rfl | rfl | rfl | rfl | rfl | rfl | rfl <;> first | rfl | (exfalso; simp at h)
    subst this
    rfl
def newD (n : Nat) : Dk := ⟨List.replicate n (List.replicate 256 0), [], -1, false⟩
theorem new_ok (n : Nat) (h1 : 32 ≤ n) (h2 : n ≤ 2048) : Spec Tryd.prog LL 37 [.n .i64 (n : Int)] (.tp [eDk (newD n), .n .i64 0]) := by
  refine spec_of (C := ⟨Tryd.prog, LL, EE, []⟩) (rl := [eDk (newD n), .n .i64 0]) (rs := [.cell 2 25, .tmp 3]) CCx LLs Tryd.func37 rfl (by kernel_rfl) rfl (by kernel_rfl) (Nat.le_of_ble_eq_true rfl) (fun i => rfl) (fun i => rfl) rfl (by decide) ?_
  refine gr ?_
  refine br (fun a1 => ?_) (fun a1 => ?_)
  · refine gr ?_
    refine br (fun a2 => ?_) (fun a2 => ?_)
    · exfalso; omega
    · refine gr ?_
      refine lp_nilc 4 25 [.nl, .nl, .n .i64 (-1), .b false] 0 5 9 hS (gr ?_) (gr ?_) (gr ?_) ?_
      · trivial
      · trivial
      · trivial
      refine lp_hd [0] [2] (fun i : Nat => [(2, .p 2 0), (4, .p 4 0), (5, .n .i64 (i : Int))]) (fun i : Nat => [(5, rS (List.replicate i (List.replicate 256 0))), (4, .cells 25 [.ow 5 i, .nl, .n .i64 (-1), .b false])]) (fun i : Nat => i ≤ n) (fun i : Nat => n - i) (0) id (fun i => if i = 5 then 23 else i) (Nat.zero_le _) (fits_of (gr ?_) (gr ?_) (gr ?_) (gr ?_) (gr ?_)) ?_
      · first | trivial | rfl | exact ⟨rfl, rfl⟩ | exact ⟨rfl, rfl, rfl⟩ | exact rowc (List.map_id _)
      · first | trivial | rfl | exact ⟨rfl, rfl⟩ | exact ⟨rfl, rfl, rfl⟩ | exact rowc (List.map_id _)
      · first | trivial | rfl | exact ⟨rfl, rfl⟩ | exact ⟨rfl, rfl, rfl⟩ | exact rowc (List.map_id _)
      · first | trivial | rfl | exact ⟨rfl, rfl⟩ | exact ⟨rfl, rfl, rfl⟩ | exact rowc (List.map_id _)
      · first | trivial | rfl | exact ⟨rfl, rfl⟩ | exact ⟨rfl, rfl, rfl⟩ | exact rowc (List.map_id _)
      rintro i hi
      refine gr ?_
      refine br (fun h => ?_) (fun h => ?_)
      · refine gr ?_
        refine cd (blank_ok) ?_
        refine gr ?_
        refine .inr ?_
        refine ⟨i + 1, (by omega), (by omega), fits_of (gr ?_) (gr ?_) (gr ?_) (gr ?_) (gr ?_)⟩
        · first | trivial | rfl | exact ⟨rfl, rfl⟩ | exact ⟨rfl, rfl, rfl⟩ | exact rowc (List.map_id _)
        · rfl
        · first | trivial | rfl | exact ⟨rfl, rfl⟩ | exact ⟨rfl, rfl, rfl⟩ | exact rowc (List.map_id _)
        · exact rowc (List.replicate_succ' (a := List.replicate 256 0)).symm
        · first | trivial | rfl | exact ⟨rfl, rfl⟩ | exact ⟨rfl, rfl, rfl⟩ | exact rowc (List.map_id _)
      · refine gr ?_
        rw [show i = n by omega]
        exact ⟨le_refl _, .inr ⟨rfl, _, _, _, _, rfl⟩, le_refl _, le_refl _, trivial⟩
  · exfalso; omega
theorem wr_len0 (l : List Wr) (k : Int) : ((l.filter fun x => decide (x.at_ = k)).map Wr.data).length ≤ l.length := by rw [List.length_map]; exact List.length_filter_le _ _
def wr (l : List Wr) (k : Int) : List (List UInt8) := (l.filter fun x => decide (x.at_ = k)).map Wr.data
theorem wr_take (l : List Wr) (k : Int) (i : Nat) (h : i < l.length) : wr (l.take (i + 1)) k = wr (l.take i) k ++ (if (l.getD i ⟨0, []⟩).at_ = k then [(l.getD i ⟨0, []⟩).data] else []) := by
  unfold wr
  rw [take_at l i ⟨0, []⟩ h, List.filter_append, List.map_append]
  congr 1
  by_cases e : (l.getD i ⟨0, []⟩).at_ = k
  · rw [if_pos e, List.filter_cons_of_pos (by simpa using e)]; rfl
  · rw [if_neg e, List.filter_cons_of_neg (by simpa using e)]; rfl
theorem wrote_ok (d : Dk) (k : Int) (hl : d.loose.length ≤ 100000) : Spec Tryd.prog LL 58 [eDk d, .n .i64 k] (.sl 1 (List UInt8) [] (wr d.loose k) .s) := by
  refine spec_of (C := ⟨Tryd.prog, LL, EE, []⟩) (rl := [.sl 1 (List UInt8) [] (wr d.loose k) .s]) (rs := [.tmp 4]) CCx LLs Tryd.func58 rfl (by kernel_rfl) rfl (by kernel_rfl) (Nat.le_of_ble_eq_true rfl) (fun i => rfl) (fun i => rfl) rfl (by decide) ?_
  refine gr ?_
  refine lp_nil 5 9 hS (gr ?_) (gr ?_) ?_
  · trivial
  · trivial
  refine lp_hr [1] [2] (fun i : Nat => [(2, .p 2 0), (5, .ow 5 (wr (d.loose.take i) k).length), (6, .n .i64 (i : Int))]) (fun i : Nat => [(5, rS (wr (d.loose.take i) k))]) (fun i : Nat => i ≤ d.loose.length) (fun i : Nat => d.loose.length - i) (0) id (Nat.zero_le _) (fits_of (gr ?_) (gr ?_) (gr ?_) (gr ?_) (gr ?_)) ?_
  · first | trivial | rfl | exact ⟨rfl, rfl⟩ | exact ⟨rfl, rfl, rfl⟩ | exact rowc (List.map_id _)
  · first | trivial | rfl | exact ⟨rfl, rfl⟩ | exact ⟨rfl, rfl, rfl⟩ | exact rowc (List.map_id _)
  · first | trivial | rfl | exact ⟨rfl, rfl⟩ | exact ⟨rfl, rfl, rfl⟩ | exact rowc (List.map_id _)
  · first | trivial | rfl | exact ⟨rfl, rfl⟩ | exact ⟨rfl, rfl, rfl⟩ | exact rowc (List.map_id _)
  · first | trivial | rfl | exact ⟨rfl, rfl⟩ | exact ⟨rfl, rfl, rfl⟩ | exact rowc (List.map_id _)
  rintro i hi
  refine gr ?_
  refine br (fun h => ?_) (fun h => ?_)
  · refine gr ?_
    have e := wr_take d.loose k i (by omega)
    have hwl : (wr (d.loose.take i) k).length ≤ (d.loose.take i).length := wr_len0 _ k
    rw [List.length_take] at hwl
    refine br (fun h2 => ?_) (fun h2 => ?_)
    · refine gr ?_
      refine .inr ?_
      refine ⟨i + 1, fun i => if i = 5 then 30 else i, (by omega), (by omega), fits_of (gr ?_) (gr ?_) (gr ?_) (gr ?_) (gr ?_)⟩
      · first | trivial | rfl | exact ⟨rfl, rfl⟩ | exact ⟨rfl, rfl, rfl⟩ | exact rowc (List.map_id _)
      · (rw [e, if_pos h2, List.length_append]; exact ⟨rfl, rfl⟩)
      · first | trivial | rfl | exact ⟨rfl, rfl⟩ | exact ⟨rfl, rfl, rfl⟩ | exact rowc (List.map_id _)
      · exact rowc (by rw [e, if_pos h2])
      · first | trivial | rfl | exact ⟨rfl, rfl⟩ | exact ⟨rfl, rfl, rfl⟩ | exact rowc (List.map_id _)
    · refine gr ?_
      rw [if_neg h2, List.append_nil] at e
      refine ⟨i + 1, id, (by omega), (by omega), fits_of (gr ?_) (gr ?_) (gr ?_) (gr ?_) (gr ?_)⟩
      · first | trivial | rfl | exact ⟨rfl, rfl⟩ | exact ⟨rfl, rfl, rfl⟩ | exact rowc (List.map_id _)
      · (rw [e]; exact ⟨rfl, rfl⟩)
      · first | trivial | rfl | exact ⟨rfl, rfl⟩ | exact ⟨rfl, rfl, rfl⟩ | exact rowc (List.map_id _)
      · exact rowc (by rw [e])
      · first | trivial | rfl | exact ⟨rfl, rfl⟩ | exact ⟨rfl, rfl, rfl⟩ | exact rowc (List.map_id _)
  · refine gr ?_
    rw [List.take_of_length_le (by omega)]
    first | exact le_refl _ | trivial
def sameB : List (List UInt8) → List (List UInt8) → Bool := fun a b => decide (a = b)
theorem sameL_ok (a b : List (List UInt8)) (ha : a.length ≤ 100000) : Spec Tryd.prog LL 17 [.sl 1 (List UInt8) [] a .s, .sl 1 (List UInt8) [] b .s] (.b (decide (a = b))) := by
  refine spec_of (C := ⟨Tryd.prog, LL, EE, []⟩) (rl := [.b (decide (a = b))]) (rs := [.tmp 4]) CCx LLs Tryd.func17 rfl (by kernel_rfl) rfl (by kernel_rfl) (Nat.le_of_ble_eq_true rfl) (fun i => rfl) (fun i => rfl) rfl (by decide) ?_
  refine gr ?_
  refine br (fun h => ?_) (fun h => ?_)
  · refine gr ?_
    rw [decide_eq_false (fun e => h (by rw [e]))]
  · refine gr ?_
    refine lp_hd [0, 1] [] (fun i : Nat => [(5, .n .i64 (i : Int))]) (fun i : Nat => []) (fun i : Nat => i ≤ a.length ∧ a.take i = b.take i) (fun i : Nat => a.length - i) (0) id (id) ⟨Nat.zero_le _, rfl⟩ (fits_of (gr ?_) (gr ?_) (gr ?_) (gr ?_) (gr ?_)) ?_
    · first | trivial | rfl | exact ⟨rfl, rfl⟩ | exact ⟨rfl, rfl, rfl⟩ | exact rowc (List.map_id _)
    · first | trivial | rfl | exact ⟨rfl, rfl⟩ | exact ⟨rfl, rfl, rfl⟩ | exact rowc (List.map_id _)
    · first | trivial | rfl | exact ⟨rfl, rfl⟩ | exact ⟨rfl, rfl, rfl⟩ | exact rowc (List.map_id _)
    · first | trivial | rfl | exact ⟨rfl, rfl⟩ | exact ⟨rfl, rfl, rfl⟩ | exact rowc (List.map_id _)
    · first | trivial | rfl | exact ⟨rfl, rfl⟩ | exact ⟨rfl, rfl, rfl⟩ | exact rowc (List.map_id _)
    rintro i ⟨hi, he⟩
    refine gr ?_
    refine br (fun h2 => ?_) (fun h2 => ?_)
    · refine gr ?_
      refine br (fun h3 => ?_) (fun h3 => ?_)
      · refine gr ?_
        rw [decide_eq_false (fun e => h3 (by rw [e]))]
      · refine gr ?_
        refine ⟨i + 1, ⟨by omega, by rw [take_at a i [] (by omega), take_at b i [] (by omega), he, Decidable.not_not.1 h3]⟩, (by omega), fits_of (gr ?_) (gr ?_) (gr ?_) (gr ?_) (gr ?_)⟩
        · first | trivial | rfl | exact ⟨rfl, rfl⟩ | exact ⟨rfl, rfl, rfl⟩ | exact rowc (List.map_id _)
        · first | trivial | rfl | exact ⟨rfl, rfl⟩ | exact ⟨rfl, rfl, rfl⟩ | exact rowc (List.map_id _)
        · first | trivial | rfl | exact ⟨rfl, rfl⟩ | exact ⟨rfl, rfl, rfl⟩ | exact rowc (List.map_id _)
        · first | trivial | rfl | exact ⟨rfl, rfl⟩ | exact ⟨rfl, rfl, rfl⟩ | exact rowc (List.map_id _)
        · first | trivial | rfl | exact ⟨rfl, rfl⟩ | exact ⟨rfl, rfl, rfl⟩ | exact rowc (List.map_id _)
    · refine gr ?_
      have hab : a.length = b.length := by omega
      rw [decide_eq_true]
      rw [List.take_of_length_le (by omega), List.take_of_length_le (by omega)] at he
      exact he
theorem sector_ok (c : UInt8) : Spec Tryd.prog LL 28 [.n .u8 (c.toNat : Int)] (.s (List.replicate 256 c)) := by
  refine spec_of (C := ⟨Tryd.prog, LL, EE, []⟩) (rl := [.s (List.replicate 256 c)]) (rs := [.tmp 2]) CCx LLs Tryd.func28 rfl (by kernel_rfl) rfl (by kernel_rfl) (Nat.le_of_ble_eq_true rfl) (fun i => rfl) (fun i => rfl) rfl (by decide) ?_
  refine gr ?_
  refine ⟨rfl, ?_⟩
  refine lp_hd [0] [] (fun i : Nat => [(3, .ow 5 256), (4, .n .i64 (i : Int))]) (fun i : Nat => [(5, .row 5 1 UInt8 0 (List.replicate i c ++ List.replicate (256 - i) 0) eB cB)]) (fun i : Nat => i ≤ 256) (fun i : Nat => 256 - i) (0) id (id) (Nat.zero_le _) (fits_of (gr ?_) (gr ?_) (gr ?_) (gr ?_) (gr ?_)) ?_
  · first | trivial | rfl | exact ⟨rfl, rfl⟩ | exact ⟨rfl, rfl, rfl⟩ | exact rowc (List.map_id _)
  · first | trivial | rfl | exact ⟨rfl, rfl⟩ | exact ⟨rfl, rfl, rfl⟩ | exact rowc (List.map_id _)
  · first | trivial | rfl | exact ⟨rfl, rfl⟩ | exact ⟨rfl, rfl, rfl⟩ | exact rowc (List.map_id _)
  · first | trivial | rfl | exact ⟨rfl, rfl⟩ | exact ⟨rfl, rfl, rfl⟩ | exact rowc (List.map_id _)
  · first | trivial | rfl | exact ⟨rfl, rfl⟩ | exact ⟨rfl, rfl, rfl⟩ | exact rowc (List.map_id _)
  rintro i hi
  refine gr ?_
  refine br (fun h => ?_) (fun h => ?_)
  · refine gr ?_
    refine ⟨i + 1, (by omega), (by omega), fits_of (gr ?_) (gr ?_) (gr ?_) (gr ?_) (gr ?_)⟩
    · first | trivial | rfl | exact ⟨rfl, rfl⟩ | exact ⟨rfl, rfl, rfl⟩ | exact rowc (List.map_id _)
    · rfl
    · first | trivial | rfl | exact ⟨rfl, rfl⟩ | exact ⟨rfl, rfl, rfl⟩ | exact rowc (List.map_id _)
    · exact rowc (by rw [show cB (V.n .u8 (c.toNat : Int)) = c by simp [cB]]; exact rep_set _ _ _ _ (by omega))
    · first | trivial | rfl | exact ⟨rfl, rfl⟩ | exact ⟨rfl, rfl, rfl⟩ | exact rowc (List.map_id _)
  · refine gr ?_
    obtain rfl : i = 256 := by omega
    rw [if_pos rfl, Nat.sub_self, List.replicate_zero, List.append_nil]
    refine ⟨List.replicate 256 c, 5, ⟨rfl, rfl, by kernel_rfl, by kernel_rfl, by kernel_rfl⟩, ?_⟩
    refine gr ?_
    trivial
end Go.Proofs.YtnmaaijeamlplaaDoor.Ev
namespace Go.Proofs.YtnmaaijeamlplaaDoor.Ev
open Go.RowKit
open Go.Proofs.YtnmaaijeamlplaaDoor.Mem
set_option linter.unusedVariables false
set_option linter.unusedSimpArgs false
set_option maxRecDepth 100000
theorem rright_ok (d : Dk) (hl : d.loose.length ≤ 1000000) : Spec Tryd.prog LL 36 [eDk d] (.b (right d)) := by
  refine spec_of (C := ⟨Tryd.prog, LL, EE, []⟩) (rl := [.b (right d)]) (rs := [.tmp 2]) CCx LLs Tryd.func36 rfl (by kernel_rfl) rfl (by kernel_rfl) (Nat.le_of_ble_eq_true rfl) (fun i => rfl) (fun i => rfl) rfl (by decide) ?_
  refine gr ?_
  refine br (fun a1 => ?_) (fun a1 => ?_)
  · refine gr ?_
    refine br (fun a2 => ?_) (fun a2 => ?_)
    · refine gr ?_
      exact (right_no fun h => by omega).symm
    · refine gr ?_
      refine lp_hd [1] [1] (fun i : Nat => [(3, .n .i64 (i : Int))]) (fun i : Nat => []) (fun i : Nat => i ≤ d.safe.length ∧ ∀ j, j < i → (d.safe.getD j []).length = 256) (fun i : Nat => d.safe.length - i) (0) id (id) ⟨Nat.zero_le _, fun j h => by omega⟩ (fits_of (gr ?_) (gr ?_) (gr ?_) (gr ?_) (gr ?_)) ?_
      · first | trivial | rfl | exact ⟨rfl, rfl⟩ | exact ⟨rfl, rfl, rfl⟩ | exact rowc (List.map_id _)
      · first | trivial | rfl | exact ⟨rfl, rfl⟩ | exact ⟨rfl, rfl, rfl⟩ | exact rowc (List.map_id _)
      · first | trivial | rfl | exact ⟨rfl, rfl⟩ | exact ⟨rfl, rfl, rfl⟩ | exact rowc (List.map_id _)
      · first | trivial | rfl | exact ⟨rfl, rfl⟩ | exact ⟨rfl, rfl, rfl⟩ | exact rowc (List.map_id _)
      · first | trivial | rfl | exact ⟨rfl, rfl⟩ | exact ⟨rfl, rfl, rfl⟩ | exact rowc (List.map_id _)
      rintro i ⟨hi, hf⟩
      refine gr ?_
      refine br (fun h => ?_) (fun h => ?_)
      · refine gr ?_
        refine br (fun h2 => ?_) (fun h2 => ?_)
        · refine gr ?_
          refine (right_no fun hr => h2 ?_).symm
          have := of_decide_eq_true (List.all_eq_true.1 hr.2.2.1 (d.safe.getD i []) (getD_mem (by omega)))
          omega
        · refine gr ?_
          refine ⟨i + 1, ⟨by omega, fun j hj => by rcases Nat.lt_or_ge j i with h4 | h4; exact hf j h4; rw [show j = i by omega]; omega⟩, (by omega), fits_of (gr ?_) (gr ?_) (gr ?_) (gr ?_) (gr ?_)⟩
          · first | trivial | rfl | exact ⟨rfl, rfl⟩ | exact ⟨rfl, rfl, rfl⟩ | exact rowc (List.map_id _)
          · first | trivial | rfl | exact ⟨rfl, rfl⟩ | exact ⟨rfl, rfl, rfl⟩ | exact rowc (List.map_id _)
          · first | trivial | rfl | exact ⟨rfl, rfl⟩ | exact ⟨rfl, rfl, rfl⟩ | exact rowc (List.map_id _)
          · first | trivial | rfl | exact ⟨rfl, rfl⟩ | exact ⟨rfl, rfl, rfl⟩ | exact rowc (List.map_id _)
          · first | trivial | rfl | exact ⟨rfl, rfl⟩ | exact ⟨rfl, rfl, rfl⟩ | exact rowc (List.map_id _)
      · refine gr ?_
        refine lp_hd [1] [1] (fun i : Nat => [(4, .n .i64 (i : Int))]) (fun i : Nat => []) (fun i : Nat => i ≤ d.loose.length ∧ ∀ j, j < i → okW d.safe.length (d.loose.getD j ⟨0, []⟩) = true) (fun i : Nat => d.loose.length - i) (0) id (id) ⟨Nat.zero_le _, fun j h => by omega⟩ (fits_of (gr ?_) (gr ?_) (gr ?_) (gr ?_) (gr ?_)) ?_
        · first | trivial | rfl | exact ⟨rfl, rfl⟩ | exact ⟨rfl, rfl, rfl⟩ | exact rowc (List.map_id _)
        · first | trivial | rfl | exact ⟨rfl, rfl⟩ | exact ⟨rfl, rfl, rfl⟩ | exact rowc (List.map_id _)
        · first | trivial | rfl | exact ⟨rfl, rfl⟩ | exact ⟨rfl, rfl, rfl⟩ | exact rowc (List.map_id _)
        · first | trivial | rfl | exact ⟨rfl, rfl⟩ | exact ⟨rfl, rfl, rfl⟩ | exact rowc (List.map_id _)
        · first | trivial | rfl | exact ⟨rfl, rfl⟩ | exact ⟨rfl, rfl, rfl⟩ | exact rowc (List.map_id _)
        rintro k ⟨hk, hg⟩
        have hok : d.loose.all (okW d.safe.length) = true → (hk : k < d.loose.length) → okW d.safe.length (d.loose.getD k ⟨0, []⟩) = true := fun h hk => List.all_eq_true.1 h _ (getD_mem hk)
        have no : ¬ okW d.safe.length (d.loose.getD k ⟨0, []⟩) = true → (hk : k < d.loose.length) → false = right d := fun h hk => (right_no fun hr => h (hok hr.2.2.2 hk)).symm
        refine gr ?_
        refine br (fun b1 => ?_) (fun b1 => ?_)
        · refine gr ?_
          refine br (fun b2 => ?_) (fun b2 => ?_)
          · refine gr ?_
            refine br (fun b3 => ?_) (fun b3 => ?_)
            · refine gr ?_
              refine br (fun b4 => ?_) (fun b4 => ?_)
              · refine gr ?_
                exact no (by simp only [okW, Bool.and_eq_true, decide_eq_true_eq]; omega) (by omega)
              · refine gr ?_
                refine ⟨k + 1, ⟨by omega, fun j hj => by rcases Nat.lt_or_ge j k with h4 | h4; exact hg j h4; rw [show j = k by omega]; simp only [okW, Bool.and_eq_true, decide_eq_true_eq]; omega⟩, (by omega), fits_of (gr ?_) (gr ?_) (gr ?_) (gr ?_) (gr ?_)⟩
                · first | trivial | rfl | exact ⟨rfl, rfl⟩ | exact ⟨rfl, rfl, rfl⟩ | exact rowc (List.map_id _)
                · first | trivial | rfl | exact ⟨rfl, rfl⟩ | exact ⟨rfl, rfl, rfl⟩ | exact rowc (List.map_id _)
                · first | trivial | rfl | exact ⟨rfl, rfl⟩ | exact ⟨rfl, rfl, rfl⟩ | exact rowc (List.map_id _)
                · first | trivial | rfl | exact ⟨rfl, rfl⟩ | exact ⟨rfl, rfl, rfl⟩ | exact rowc (List.map_id _)
                · first | trivial | rfl | exact ⟨rfl, rfl⟩ | exact ⟨rfl, rfl, rfl⟩ | exact rowc (List.map_id _)
            · exact no (by simp only [okW, Bool.and_eq_true, decide_eq_true_eq]; omega) (by omega)
          · exact no (by simp only [okW, Bool.and_eq_true, decide_eq_true_eq]; omega) (by omega)
        · refine gr ?_
          have e1 : ∀ x ∈ d.safe, x.length = 256 := fun x hx => by
            obtain ⟨j, hj, rfl⟩ := List.getElem_of_mem hx
            have := hf j (by omega)
            rwa [List.getD_eq_getElem?_getD, List.getElem?_eq_getElem hj] at this
          have e2 : ∀ x ∈ d.loose, okW d.safe.length x = true := fun x hx => by
            obtain ⟨j, hj, rfl⟩ := List.getElem_of_mem hx
            have := hg j (by omega)
            rwa [List.getD_eq_getElem?_getD, List.getElem?_eq_getElem hj] at this
          simp only [right, Bool.and_eq_true, decide_eq_true_eq, List.all_eq_true, eq_comm (a := true)]
          exact ⟨⟨⟨by omega, by omega⟩, e1⟩, e2⟩
  · exact (right_no fun h => by omega).symm
def crs (d : Dk) (fates : List UInt8) : Nat → Nat × List (List UInt8)
  | 0 => (0, d.safe)
  | i + 1 => if (wr d.loose i).length = 0 then crs d fates i else
    ((crs d fates i).1 + 1, if (crs d fates i).1 < fates.length ∧ 0 < (fates.getD (crs d fates i).1 0).toNat % ((wr d.loose i).length + 1) then (crs d fates i).2.set i ((wr d.loose i).getD ((fates.getD (crs d fates i).1 0).toNat % ((wr d.loose i).length + 1) - 1) []) else (crs d fates i).2)
def crashM (d : Dk) (fates : List UInt8) (fuse : Int) : Dk × Int := if right d = false then (d, 1) else (⟨(crs d fates d.safe.length).2, [], fuse, false⟩, 0)
theorem crs_len (d : Dk) (fates : List UInt8) : ∀ i, (crs d fates i).2.length = d.safe.length ∧ (crs d fates i).1 ≤ i
  | 0 => ⟨rfl, Nat.le_refl _⟩
  | i + 1 => by
    obtain ⟨h1, h2⟩ := crs_len d fates i
    unfold crs
    split
    · exact ⟨h1, by omega⟩
    · dsimp only
      split
      · exact ⟨by rw [List.length_set]; exact h1, by omega⟩
      · exact ⟨h1, by omega⟩
theorem crash_ok (d : Dk) (fates : List UInt8) (fuse : Int) (hl : d.loose.length ≤ 100000) : Spec Tryd.prog LL 26 [eDk d, .sl 1 UInt8 0 fates eB, .n .i64 fuse] (.tp [eDk (crashM d fates fuse).1, .n .i64 (crashM d fates fuse).2]) := by
  refine spec_of (C := ⟨Tryd.prog, LL, EE, []⟩) (rl := [eDk (crashM d fates fuse).1, .n .i64 (crashM d fates fuse).2]) (rs := [.cell 6 25, .tmp 7]) CCx LLs Tryd.func26 rfl (by kernel_rfl) rfl (by kernel_rfl) (Nat.le_of_ble_eq_true rfl) (fun i => rfl) (fun i => rfl) rfl (by decide) ?_
  refine gr ?_
  refine cl (rright_ok d (by omega)) ?_
  refine gr ?_
  refine br (fun h => ?_) (fun h => ?_)
  · refine gr ?_
    rw [show crashM d fates fuse = (d, 1) from if_pos h]
    exact ⟨le_refl _, rfl⟩
  · have hr : right d = true := by simpa using h
    have q0 : crashM d fates fuse = _ := if_neg h
    obtain ⟨q1, q2⟩ := right_len hr
    refine gr ?_
    refine .inl (lto (gr ?_))
    refine lp_hr [1, 2, 3, 6] [3, 6] (fun i : Nat => [(8, .ow 20 d.safe.length), (9, .n .i64 ((crs d fates i).1 : Int)), (10, .n .i64 (i : Int))]) (fun i : Nat => [(20, rS (crs d fates i).2)]) (fun i : Nat => i ≤ d.safe.length) (fun i : Nat => d.safe.length - i) (0) id (Nat.zero_le _) (fits_of (gr ?_) (gr ?_) (gr ?_) (gr ?_) (gr ?_)) ?_
    · first | trivial | rfl | exact ⟨rfl, rfl⟩ | exact ⟨rfl, rfl, rfl⟩ | exact rowc (List.map_id _)
    · first | trivial | rfl | exact ⟨rfl, rfl⟩ | exact ⟨rfl, rfl, rfl⟩ | exact rowc (List.map_id _)
    · first | trivial | rfl | exact ⟨rfl, rfl⟩ | exact ⟨rfl, rfl, rfl⟩ | exact rowc (List.map_id _)
    · first | trivial | rfl | exact ⟨rfl, rfl⟩ | exact ⟨rfl, rfl, rfl⟩ | exact rowc (List.map_id _)
    · first | trivial | rfl | exact ⟨rfl, rfl⟩ | exact ⟨rfl, rfl, rfl⟩ | exact rowc (List.map_id _)
    rintro i hi
    obtain ⟨c1, c2⟩ := crs_len d fates i
    refine gr ?_
    refine br (fun b1 => ?_) (fun b1 => ?_)
    · refine gr ?_
      refine cl (wrote_ok d _ (by omega)) ?_
      refine gr ?_
      refine br (fun b2 => ?_) (fun b2 => ?_)
      · refine gr ?_
        have qs : crs d fates (i + 1) = crs d fates i := if_pos (by omega)
        refine ⟨i + 1, id, (by omega), (by omega), fits_of (gr ?_) (gr ?_) (gr ?_) (gr ?_) (gr ?_)⟩
        · first | trivial | rfl | exact ⟨rfl, rfl⟩ | exact ⟨rfl, rfl, rfl⟩ | exact rowc (List.map_id _)
        · (rw [qs]; exact ⟨rfl, rfl⟩)
        · first | trivial | rfl | exact ⟨rfl, rfl⟩ | exact ⟨rfl, rfl, rfl⟩ | exact rowc (List.map_id _)
        · exact rowc (by rw [qs])
        · first | trivial | rfl | exact ⟨rfl, rfl⟩ | exact ⟨rfl, rfl, rfl⟩ | exact rowc (List.map_id _)
      · have qs : crs d fates (i + 1) = _ := if_neg (show ¬ (wr d.loose i).length = 0 by omega)
        have hwl := wr_len0 d.loose i
        have hwl : (wr d.loose i).length ≤ d.loose.length := hwl
        have hm : (fates.getD (crs d fates i).1 0).toNat % ((wr d.loose i).length + 1) < (wr d.loose i).length + 1 := Nat.mod_lt _ (by omega)
        generalize hkk : (fates.getD (crs d fates i).1 0).toNat % ((wr d.loose i).length + 1) = kk at hm qs
        refine gr ?_
        refine br (fun b3 => ?_) (fun b3 => ?_)
        · refine gr ?_
          rw [hkk]
          refine br (fun b4 => ?_) (fun b4 => ?_)
          · refine gr ?_
            rw [if_pos ⟨by omega, by omega⟩] at qs
            refine ⟨i + 1, id, (by omega), (by omega), fits_of (gr ?_) (gr ?_) (gr ?_) (gr ?_) (gr ?_)⟩
            · first | trivial | rfl | exact ⟨rfl, rfl⟩ | exact ⟨rfl, rfl, rfl⟩ | exact rowc (List.map_id _)
            · (rw [qs]; exact ⟨rfl, rfl⟩)
            · first | trivial | rfl | exact ⟨rfl, rfl⟩ | exact ⟨rfl, rfl, rfl⟩ | exact rowc (List.map_id _)
            · exact rowc (by rw [qs, show ((kk : Int) - 1).toNat = kk - 1 by omega])
            · first | trivial | rfl | exact ⟨rfl, rfl⟩ | exact ⟨rfl, rfl, rfl⟩ | exact rowc (List.map_id _)
          · refine gr ?_
            rw [if_neg (fun h => b4 (by omega))] at qs
            refine ⟨i + 1, id, (by omega), (by omega), fits_of (gr ?_) (gr ?_) (gr ?_) (gr ?_) (gr ?_)⟩
            · first | trivial | rfl | exact ⟨rfl, rfl⟩ | exact ⟨rfl, rfl, rfl⟩ | exact rowc (List.map_id _)
            · (rw [qs]; exact ⟨rfl, rfl⟩)
            · first | trivial | rfl | exact ⟨rfl, rfl⟩ | exact ⟨rfl, rfl, rfl⟩ | exact rowc (List.map_id _)
            · exact rowc (by rw [qs])
            · first | trivial | rfl | exact ⟨rfl, rfl⟩ | exact ⟨rfl, rfl, rfl⟩ | exact rowc (List.map_id _)
        · refine gr ?_
          rw [if_neg (fun h => b3 (by omega))] at qs
          refine ⟨i + 1, id, (by omega), (by omega), fits_of (gr ?_) (gr ?_) (gr ?_) (gr ?_) (gr ?_)⟩
          · first | trivial | rfl | exact ⟨rfl, rfl⟩ | exact ⟨rfl, rfl, rfl⟩ | exact rowc (List.map_id _)
          · (rw [qs]; exact ⟨rfl, rfl⟩)
          · first | trivial | rfl | exact ⟨rfl, rfl⟩ | exact ⟨rfl, rfl, rfl⟩ | exact rowc (List.map_id _)
          · exact rowc (by rw [qs])
          · first | trivial | rfl | exact ⟨rfl, rfl⟩ | exact ⟨rfl, rfl, rfl⟩ | exact rowc (List.map_id _)
    · refine gr ?_
      obtain rfl : i = d.safe.length := by omega
      rw [q0, if_pos (by omega)]
      exact ⟨⟨le_refl _, .inr ⟨rfl, _, _, _, _, rfl⟩, le_refl _, le_refl _, trivial⟩, rfl⟩
end Go.Proofs.YtnmaaijeamlplaaDoor.Ev
namespace Go.Proofs.YtnmaaijeamlplaaDoor.Ev
open Go.RowKit
open Go.Proofs.YtnmaaijeamlplaaDoor.Mem
set_option linter.unusedVariables false
set_option linter.unusedSimpArgs false
set_option maxRecDepth 100000
theorem ag2 {F : Nat → Prop} {W : World} {G : Gm} {a : Int} {b : List UInt8} {vs : Array Value} (h : Rep F W G (.ag [.n .i64 a, .s b]) (.agg vs)) : vs = #[.int .i64 a, .string (tx b)] := by
  obtain ⟨us, h1, h2, h3⟩ := h.ag_inv
  obtain rfl := Value.agg.inj h1
  have h2 : vs.size = 2 := h2
  have e0 := (h3 0 (.n .i64 a) _ rfl (Array.getElem?_eq_getElem (by omega))).n_inv
  have e1 := (h3 1 (.s b) _ rfl (Array.getElem?_eq_getElem (by omega))).s_inv
  apply Array.ext
  · simpa using h2
  · intro i p q
    rcases i with _ | _ | i
    · exact e0
    · exact e1
    · omega
theorem eqaW (a : Int) (b : List UInt8) : EqA Tryd.prog 51 [.n .i64 a, .s b] [.n .i64 a, .s b] true := by
  refine ⟨by kernel_rfl, fun F W G vs us h1 h2 => ?_⟩
  rw [ag2 h1, ag2 h2]
  have u3 := Tryd.underlying3
  have a3 := Tryd.isAgg3
  have z3 := Tryd.sizeOf3
  have u9 := Tryd.underlying9
  have a9 := Tryd.isAgg9
  have z9 := Tryd.sizeOf9
  have hS : Tryd.prog.underlying 51 = some (.struct (Tryd.prog.fieldsOf 51)) := by kernel_rfl
  have hp : Tryd.prog.stoodInHeld 51 = false := by kernel_rfl
  rw [show (10000 : Nat) = 9999 + 1 from rfl, run_equalIn_agg W 9999 51 _ _ hS hp]
  simp only [Program.fieldsOf, Tryd.underlying51]
  go_simp
theorem bl4 : blT Tryd.prog 4 = true := by kernel_rfl
structure Fall where
  fuse : Nat
  fates : List UInt8
def eFall (x : Fall) : V := .ag [.n .u16 (x.fuse : Int), .sl 1 UInt8 0 x.fates eB]
theorem eFd (x : Fall) : eFall x = .ag [.n .u16 (x.fuse : Int), .sl 1 UInt8 0 x.fates eB] := rfl
theorem fx3 : sz Tryd.prog 41 = some 1 ∧ agT Tryd.prog 41 = false ∧ (Tryd.prog.underlying 41).isSome = true ∧ bys Tryd.prog 41 = some 24 ∧ zc Tryd.prog 41 = some [.nl] ∧ sle Tryd.prog 41 = some 45 ∧ (sle Tryd.prog 41).isSome = true ∧ sz Tryd.prog 42 = some 1 ∧ agT Tryd.prog 42 = false ∧ (Tryd.prog.underlying 42).isSome = true ∧ bys Tryd.prog 42 = some 2 ∧ zc Tryd.prog 42 = some [.n .u16 0] ∧ ik Tryd.prog 42 = some .u16 ∧ sz Tryd.prog 45 = some 2 ∧ agT Tryd.prog 45 = true ∧ (Tryd.prog.underlying 45).isSome = true ∧ bys Tryd.prog 45 = some 32 ∧ zc Tryd.prog 45 = some [.n .u16 0, .nl] ∧ fld Tryd.prog 45 0 = some (0, false, 1) ∧ fld Tryd.prog 45 1 = some (1, false, 1) ∧ plc Tryd.prog 45 = some [(0, 1), (1, 1)] ∧ sz Tryd.prog 25 = some 4 ∧ agT Tryd.prog 25 = true ∧ (Tryd.prog.underlying 25).isSome = true ∧ bys Tryd.prog 25 = some 64 ∧ zc Tryd.prog 25 = some [.nl, .nl, .n .i64 0, .b false] ∧ fld Tryd.prog 25 0 = some (0, false, 1) ∧ fld Tryd.prog 25 1 = some (1, false, 1) ∧ fld Tryd.prog 25 2 = some (2, false, 1) ∧ fld Tryd.prog 25 3 = some (3, false, 1) ∧ plc Tryd.prog 25 = some [(0, 1), (1, 1), (2, 1), (3, 1)] ∧ sz Tryd.prog 51 = some 2 ∧ agT Tryd.prog 51 = true ∧ (Tryd.prog.underlying 51).isSome = true ∧ bys Tryd.prog 51 = some 24 ∧ zc Tryd.prog 51 = some [.n .i64 0, .s []] ∧ fld Tryd.prog 51 0 = some (0, false, 1) ∧ fld Tryd.prog 51 1 = some (1, false, 1) ∧ plc Tryd.prog 51 = some [(0, 1), (1, 1)] ∧ sz Tryd.prog 43 = some 1 ∧ agT Tryd.prog 43 = false ∧ (Tryd.prog.underlying 43).isSome = true ∧ bys Tryd.prog 43 = some 24 ∧ zc Tryd.prog 43 = some [.nl] ∧ sle Tryd.prog 43 = some 5 ∧ (sle Tryd.prog 43).isSome = true ∧ sz Tryd.prog 55 = some 1 ∧ agT Tryd.prog 55 = false ∧ (Tryd.prog.underlying 55).isSome = true ∧ bys Tryd.prog 55 = some 24 ∧ zc Tryd.prog 55 = some [.nl] ∧ sle Tryd.prog 55 = some 23 ∧ (sle Tryd.prog 55).isSome = true ∧ sz Tryd.prog 22 = some 1 ∧ agT Tryd.prog 22 = false ∧ (Tryd.prog.underlying 22).isSome = true ∧ bys Tryd.prog 22 = some 24 ∧ zc Tryd.prog 22 = some [.nl] ∧ sle Tryd.prog 22 = some 9 ∧ (sle Tryd.prog 22).isSome = true ∧ sz Tryd.prog 23 = some 1 ∧ agT Tryd.prog 23 = false ∧ (Tryd.prog.underlying 23).isSome = true ∧ bys Tryd.prog 23 = some 24 ∧ zc Tryd.prog 23 = some [.nl] ∧ sle Tryd.prog 23 = some 51 ∧ (sle Tryd.prog 23).isSome = true ∧ sz Tryd.prog 4 = some 1 ∧ agT Tryd.prog 4 = false ∧ (Tryd.prog.underlying 4).isSome = true ∧ bys Tryd.prog 4 = some 1 ∧ zc Tryd.prog 4 = some [.b false] ∧ blT Tryd.prog 4 = true ∧ sz Tryd.prog 3 = some 1 ∧ agT Tryd.prog 3 = false ∧ (Tryd.prog.underlying 3).isSome = true ∧ bys Tryd.prog 3 = some 8 ∧ zc Tryd.prog 3 = some [.n .i64 0] ∧ ik Tryd.prog 3 = some .i64 ∧ sz Tryd.prog 9 = some 1 ∧ agT Tryd.prog 9 = false ∧ (Tryd.prog.underlying 9).isSome = true ∧ bys Tryd.prog 9 = some 16 ∧ zc Tryd.prog 9 = some [.s []] ∧ strT Tryd.prog 9 = true ∧ sz Tryd.prog 5 = some 1 ∧ agT Tryd.prog 5 = false ∧ (Tryd.prog.underlying 5).isSome = true ∧ bys Tryd.prog 5 = some 1 ∧ zc Tryd.prog 5 = some [.n .u8 0] ∧ ik Tryd.prog 5 = some .u8 ∧ sz Tryd.prog 28 = some 1 ∧ agT Tryd.prog 28 = false ∧ (Tryd.prog.underlying 28).isSome = true ∧ bys Tryd.prog 28 = some 8 ∧ zc Tryd.prog 28 = some [.n .i64 0] ∧ ik Tryd.prog 28 = some .i64 :=
  ⟨by kernel_rfl, by kernel_rfl, by kernel_rfl, by kernel_rfl, by kernel_rfl, by kernel_rfl, by kernel_rfl, by kernel_rfl, by kernel_rfl, by kernel_rfl, by kernel_rfl, by kernel_rfl, by kernel_rfl, by kernel_rfl, by kernel_rfl, by kernel_rfl, by kernel_rfl, by kernel_rfl, by kernel_rfl, by kernel_rfl, by kernel_rfl, by kernel_rfl, by kernel_rfl, by kernel_rfl, by kernel_rfl, by kernel_rfl, by kernel_rfl, by kernel_rfl, by kernel_rfl, by kernel_rfl, by kernel_rfl, by kernel_rfl, by kernel_rfl, by kernel_rfl, by kernel_rfl, by kernel_rfl, by kernel_rfl, by kernel_rfl, by kernel_rfl, by kernel_rfl, by kernel_rfl, by kernel_rfl, by kernel_rfl, by kernel_rfl, by kernel_rfl, by kernel_rfl, by kernel_rfl, by kernel_rfl, by kernel_rfl, by kernel_rfl, by kernel_rfl, by kernel_rfl, by kernel_rfl, by kernel_rfl, by kernel_rfl, by kernel_rfl, by kernel_rfl, by kernel_rfl, by kernel_rfl, by kernel_rfl, by kernel_rfl, by kernel_rfl, by kernel_rfl, by kernel_rfl, by kernel_rfl, by kernel_rfl, by kernel_rfl, by kernel_rfl, by kernel_rfl, by kernel_rfl, by kernel_rfl, by kernel_rfl, by kernel_rfl, by kernel_rfl, by kernel_rfl, by kernel_rfl, by kernel_rfl, by kernel_rfl, by kernel_rfl, by kernel_rfl, by kernel_rfl, by kernel_rfl, by kernel_rfl, by kernel_rfl, by kernel_rfl, by kernel_rfl, by kernel_rfl, by kernel_rfl, by kernel_rfl, by kernel_rfl, by kernel_rfl, by kernel_rfl, by kernel_rfl, by kernel_rfl, by kernel_rfl, by kernel_rfl, by kernel_rfl⟩
theorem gs {p q : Prop} (hq : q) (h : p ↔ q := by simp (config := { maxSteps := 10000000 }) (disch := omega) only [fx3, eFd, bl4, ebd2, wrc, tmn, nb_len, sha_len, cSd, tdq, cDd, true_implies, Nat.mul_one, Nat.zero_mul, Nat.one_mul, Nat.add_zero, lenl, bne_self_eq_false, Int.reduceLT, Int.reduceLE, Int.reduceEq, Int.reduceNe, Int.reduceAdd, Int.reduceSub, Int.reduceMul, Int.reduceNeg, ebr, wr64, sdl, ler, true_or, or_true, rng, eok, List.length_map, List.length_range, List.length_append, List.length_replicate, List.length_set, List.length_take, List.length_drop, List.not_mem_nil, false_implies, implies_true, ↓ec, ↓eg, ↓eo, ↓eox, ↓es, ↓et1, em, emR, efz, enl, ebt, et, ev, fx, fx2, dk, ewr, odk, eBd, List.drop_nil, eEE, Option.some.injEq, Option.isSome_none, Int.reduceToNat, List.replicate_zero, Bool.or_self, rSd, rWd, ez, ef, ebd, et2, Int.toNat_natCast, Option.map_none, Option.map_some, List.all_cons, List.all_nil, Bool.and_self, List.cons_append, List.nil_append, List.append_nil, List.append_assoc, ep, ew, Option.isSome_some, id_eq, Nat.reduceLT, Nat.reduceSub, Bool.false_or, Bool.true_or, Bool.or_true, Bool.true_and, Bool.and_true, reduceCtorEq, Nat.reduceBEq, Bool.true_eq_false, Bool.false_eq_true, List.map_cons, List.map_nil, List.take_succ_cons, List.take_zero, List.drop_succ_cons, List.drop_zero, List.length_cons, List.length_nil, Nat.zero_add, Nat.reduceAdd, Nat.reduceLeDiff, Bool.not_true, Bool.not_false, List.getElem?_cons_succ, List.getElem?_cons_zero, Option.bind_some, ne_eq, not_false_eq_true, ↓eh1, eh, en, List.getD_cons_zero, List.getD_cons_succ, Nat.reduceEqDiff, ↓reduceIte, cond_true, cond_false, Bool.or_false, decide_true, decide_false, true_and, and_true, decide_eq_true_eq, decide_eq_false_iff_not, Bool.not_eq_true', Bool.not_eq_false', not_true_eq_false, Decidable.not_not]; exact Iff.rfl) : p := h.2 hq
theorem samed_ok (d : Dk) (hl : d.loose.length ≤ 1000000) (hs : d.safe.length ≤ 1000000) : Spec Tryd.prog LL 24 [eDk d, eDk d] (.b true) := by
  refine spec_of (C := ⟨Tryd.prog, LL, EE, []⟩) (rl := [.b true]) (rs := [.tmp 4]) CCx LLs Tryd.func24 rfl (by kernel_rfl) rfl (by kernel_rfl) (Nat.le_of_ble_eq_true rfl) (fun i => rfl) (fun i => rfl) rfl (by decide) ?_
  refine gs ?_
  refine lp_hd [2, 3] [2, 3] (fun i : Nat => [(5, .n .i64 (i : Int))]) (fun i : Nat => []) (fun i : Nat => i ≤ d.safe.length) (fun i : Nat => d.safe.length - i) (0) id (id) (Nat.zero_le _) (fits_of (gs ?_) (gs ?_) (gs ?_) (gs ?_) (gs ?_)) ?_
  · first | exact True.intro | exact ⟨rfl, rfl⟩ | exact ⟨rfl, rfl, rfl⟩ | rfl | exact rowc (List.map_id _) | trivial
  · first | exact True.intro | exact ⟨rfl, rfl⟩ | exact ⟨rfl, rfl, rfl⟩ | rfl | exact rowc (List.map_id _) | trivial
  · first | exact True.intro | exact ⟨rfl, rfl⟩ | exact ⟨rfl, rfl, rfl⟩ | rfl | exact rowc (List.map_id _) | trivial
  · first | exact True.intro | exact ⟨rfl, rfl⟩ | exact ⟨rfl, rfl, rfl⟩ | rfl | exact rowc (List.map_id _) | trivial
  · first | exact True.intro | exact ⟨rfl, rfl⟩ | exact ⟨rfl, rfl, rfl⟩ | rfl | exact rowc (List.map_id _) | trivial
  rintro i hi
  refine gs ?_
  refine br (fun h => ?_) (fun h => ?_)
  · refine gs ?_
    refine ⟨i + 1, (by omega), (by omega), fits_of (gs ?_) (gs ?_) (gs ?_) (gs ?_) (gs ?_)⟩
    · first | exact True.intro | exact ⟨rfl, rfl⟩ | exact ⟨rfl, rfl, rfl⟩ | rfl | exact rowc (List.map_id _) | trivial
    · first | exact True.intro | exact ⟨rfl, rfl⟩ | exact ⟨rfl, rfl, rfl⟩ | rfl | exact rowc (List.map_id _) | trivial
    · first | exact True.intro | exact ⟨rfl, rfl⟩ | exact ⟨rfl, rfl, rfl⟩ | rfl | exact rowc (List.map_id _) | trivial
    · first | exact True.intro | exact ⟨rfl, rfl⟩ | exact ⟨rfl, rfl, rfl⟩ | rfl | exact rowc (List.map_id _) | trivial
    · first | exact True.intro | exact ⟨rfl, rfl⟩ | exact ⟨rfl, rfl, rfl⟩ | rfl | exact rowc (List.map_id _) | trivial
  · refine gs ?_
    refine lp_hd [2, 3] [2, 3] (fun i : Nat => [(6, .n .i64 (i : Int))]) (fun i : Nat => []) (fun i : Nat => i ≤ d.loose.length) (fun i : Nat => d.loose.length - i) (0) id (id) (Nat.zero_le _) (fits_of (gs ?_) (gs ?_) (gs ?_) (gs ?_) (gs ?_)) ?_
    · first | exact True.intro | exact ⟨rfl, rfl⟩ | exact ⟨rfl, rfl, rfl⟩ | rfl | exact rowc (List.map_id _) | trivial
    · first | exact True.intro | exact ⟨rfl, rfl⟩ | exact ⟨rfl, rfl, rfl⟩ | rfl | exact rowc (List.map_id _) | trivial
    · first | exact True.intro | exact ⟨rfl, rfl⟩ | exact ⟨rfl, rfl, rfl⟩ | rfl | exact rowc (List.map_id _) | trivial
    · first | exact True.intro | exact ⟨rfl, rfl⟩ | exact ⟨rfl, rfl, rfl⟩ | rfl | exact rowc (List.map_id _) | trivial
    · first | exact True.intro | exact ⟨rfl, rfl⟩ | exact ⟨rfl, rfl, rfl⟩ | rfl | exact rowc (List.map_id _) | trivial
    rintro i hi
    refine gs ?_
    refine br (fun h => ?_) (fun h => ?_)
    · refine gs ?_
      refine ⟨true, eqaW _ _, gs ?_⟩
      refine ⟨i + 1, (by omega), (by omega), fits_of (gs ?_) (gs ?_) (gs ?_) (gs ?_) (gs ?_)⟩
      · first | exact True.intro | exact ⟨rfl, rfl⟩ | exact ⟨rfl, rfl, rfl⟩ | rfl | exact rowc (List.map_id _) | trivial
      · first | exact True.intro | exact ⟨rfl, rfl⟩ | exact ⟨rfl, rfl, rfl⟩ | rfl | exact rowc (List.map_id _) | trivial
      · first | exact True.intro | exact ⟨rfl, rfl⟩ | exact ⟨rfl, rfl, rfl⟩ | rfl | exact rowc (List.map_id _) | trivial
      · first | exact True.intro | exact ⟨rfl, rfl⟩ | exact ⟨rfl, rfl, rfl⟩ | rfl | exact rowc (List.map_id _) | trivial
      · first | exact True.intro | exact ⟨rfl, rfl⟩ | exact ⟨rfl, rfl, rfl⟩ | rfl | exact rowc (List.map_id _) | trivial
    · refine gs ?_
      trivial
def readyM (n : Nat) (l : List Wr) : Dk × Bool :=
  if ¬ (formatM (newD (32 + n % 64))).2 = 0 then ((formatM (newD (32 + n % 64))).1, false) else
  ((commitM (formatM (newD (32 + n % 64))).1 l).1, decide ((commitM (formatM (newD (32 + n % 64))).1 l).2 = 0 ∨ (commitM (formatM (newD (32 + n % 64))).1 l).2 = 1 ∨ (commitM (formatM (newD (32 + n % 64))).1 l).2 = 10))
theorem format_small {d : Dk} (h : Small d) : Small (formatM d).1 ∧ (formatM d).1.loose.length ≤ d.loose.length + d.safe.length ∧ (formatM d).1.safe.length = d.safe.length := by
  unfold formatM
  split
  · exact ⟨h, by dsimp only; omega, rfl⟩
  · obtain ⟨s1, s2⟩ := putFl_small d 0 (formL (d.safe.length / 4)) h
    rw [show (formL (d.safe.length / 4)).length = d.safe.length / 4 by simp [formL]] at s2
    exact ⟨s1, by omega, putFl_len _ _ _⟩
theorem ready_ok' (n : UInt8) (l : List Wr) (hl : l.length ≤ 100000000000000) : Spec Tryd.prog LL 25 [.n .u8 (n.toNat : Int), .sl 2 Wr ⟨0, []⟩ l eWr] (.tp [eDk (readyM n.toNat l).1, .b (readyM n.toNat l).2]) := by
  refine spec_of (C := ⟨Tryd.prog, LL, EE, []⟩) (rl := [eDk (readyM n.toNat l).1, .b (readyM n.toNat l).2]) (rs := [.cell 4 25, .tmp 5]) CCx LLs Tryd.func25 rfl (by kernel_rfl) rfl (by kernel_rfl) (Nat.le_of_ble_eq_true rfl) (fun i => rfl) (fun i => rfl) rfl (by decide) ?_
  refine gs ?_
  rw [show (32 : Int) + ((n.toNat % 64 : Nat) : Int) = ((32 + n.toNat % 64 : Nat) : Int) by omega]
  refine cl (new_ok _ (by omega) (by omega)) ?_
  refine gs ?_
  have hs0 : Small (newD (32 + n.toNat % 64)) := by unfold Small newD; dsimp only; omega
  have hn0 : (newD (32 + n.toNat % 64)).safe.length = 32 + n.toNat % 64 := by simp [newD]
  have hl0 : (newD (32 + n.toNat % 64)).loose.length = 0 := rfl
  obtain ⟨s1, s2, s3⟩ := format_small hs0
  refine cl (format_ok (newD (32 + n.toNat % 64)) (by omega) hs0) ?_
  refine gs ?_
  refine br (fun c1 => ?_) (fun c1 => ?_)
  · refine gs ?_
    rw [show readyM n.toNat l = ((formatM (newD (32 + n.toNat % 64))).1, false) from if_pos c1]
    exact ⟨le_refl _, rfl⟩
  · have q0 : readyM n.toNat l = _ := if_neg c1
    refine gs ?_
    refine cl (commit_ok (formatM (newD (32 + n.toNat % 64))).1 l (by omega) s1 (by omega) hl) ?_
    refine gs ?_
    rw [q0]
    dsimp only
    refine br (fun c2 => ?_) (fun c2 => ?_)
    · refine gs ?_
      refine br (fun c3 => ?_) (fun c3 => ?_)
      · refine gs ?_
        simp [c2, c3]
      · refine gs ?_
        simp [c2, Decidable.not_not.1 c3]
    · refine gs ?_
      simp [Decidable.not_not.1 c2]
def riseF : Dk → List Fall → Dk × Bool
  | d, [] => ((recoverM d).1, decide ((recoverM d).2 = 0))
  | d, f :: fs => if ¬ (recoverM { d with fuse := f.fuse }).2 = 0 ∧ ¬ (recoverM { d with fuse := f.fuse }).2 = 11 then ((recoverM { d with fuse := f.fuse }).1, false) else riseF (crashM (recoverM { d with fuse := f.fuse }).1 f.fates (-1)).1 fs
theorem risen_ok (I : Dk → Prop) (hI : ∀ d, I d → d.loose = [] ∧ d.safe.length ≤ 2048 ∧ Small d) (hS : ∀ (d : Dk) (f : Fall), I d → ((recoverM { d with fuse := f.fuse }).2 = 0 ∨ (recoverM { d with fuse := f.fuse }).2 = 11) ∧ I (crashM (recoverM { d with fuse := f.fuse }).1 f.fates (-1)).1)
    (hL : ∀ (d : Dk) (f : Fall), I d → f.fuse < 65536 → (recoverM { d with fuse := f.fuse }).1.loose.length ≤ 10000) (d : Dk) (hd : I d) (fs : List Fall) (hf : ∀ f ∈ fs, f.fuse < 65536) (hfl : fs.length ≤ 100000000000000) : Spec Tryd.prog LL 27 [eDk d, .sl 2 Fall ⟨0, []⟩ fs eFall] (.tp [eDk (riseF d (fs.take 20)).1, .b (riseF d (fs.take 20)).2]) := by
  refine spec_of (C := ⟨Tryd.prog, LL, EE, []⟩) (rl := [eDk (riseF d (fs.take 20)).1, .b (riseF d (fs.take 20)).2]) (rs := [.cell 4 25, .tmp 5]) CCx LLs Tryd.func27 rfl (by kernel_rfl) rfl (by kernel_rfl) (Nat.le_of_ble_eq_true rfl) (fun i => rfl) (fun i => rfl) rfl (by decide) ?_
  refine gs ?_
  refine lp_hd [1, 4] [4] (fun x : Nat × Dk => [(2, .p 2 0), (6, .n .i64 (x.1 : Int))]) (fun x : Nat × Dk => [(2, cD x.2)]) (fun x : Nat × Dk => x.1 ≤ (fs.take 20).length ∧ I x.2 ∧ riseF d (fs.take 20) = riseF x.2 ((fs.take 20).drop x.1)) (fun x : Nat × Dk => (fs.take 20).length - x.1) ((0, d)) id (id) ⟨Nat.zero_le _, hd, rfl⟩ (fits_of (gs ?_) (gs ?_) (gs ?_) (gs ?_) (gs ?_)) ?_
  · first | exact True.intro | exact ⟨rfl, rfl⟩ | exact ⟨rfl, rfl, rfl⟩ | rfl | exact rowc (List.map_id _) | trivial
  · first | exact True.intro | exact ⟨rfl, rfl⟩ | exact ⟨rfl, rfl, rfl⟩ | rfl | exact rowc (List.map_id _) | trivial
  · first | exact True.intro | exact ⟨rfl, rfl⟩ | exact ⟨rfl, rfl, rfl⟩ | rfl | exact rowc (List.map_id _) | trivial
  · first | exact True.intro | exact ⟨rfl, rfl⟩ | exact ⟨rfl, rfl, rfl⟩ | rfl | exact rowc (List.map_id _) | trivial
  · first | exact True.intro | exact ⟨rfl, rfl⟩ | exact ⟨rfl, rfl, rfl⟩ | rfl | exact rowc (List.map_id _) | trivial
  rintro ⟨k, c⟩ ⟨hk, hc, hg⟩
  dsimp only at hk hc hg ⊢
  rw [List.length_take] at hk
  obtain ⟨i1, i2, i3⟩ := hI c hc
  have i4 : c.loose.length = 0 := by rw [i1]; rfl
  refine gs ?_
  refine br (fun b1 => ?_) (fun b1 => ?_)
  · refine gs ?_
    refine br (fun b2 => ?_) (fun b2 => ?_)
    · have hxf0 : (fs.getD k ⟨0, []⟩).fuse < 65536 := hf _ (getD_mem (by omega))
      generalize hx : fs.getD k ⟨0, []⟩ = x at hxf0
      have hxf1 : (fs.getD k ⟨0, []⟩).fuse < 65536 := by rw [hx]; exact hxf0
      have hdr : (fs.take 20).drop k = x :: (fs.take 20).drop (k + 1) := by
        rw [drop_at (fs.take 20) k ⟨0, []⟩ (by rw [List.length_take]; omega), ← hx]
        congr 1
        rw [List.getD_eq_getElem?_getD, List.getD_eq_getElem?_getD, List.getElem?_take_of_lt (by omega)]
      obtain ⟨t1, t2⟩ := hS c x hc
      have t3 := hL c x hc hxf0
      rw [hdr] at hg
      refine gs ?_
      rw [hx]
      refine cl (recover_ok ⟨c.safe, c.loose, x.fuse, c.down⟩ (by dsimp only; omega) (by unfold Small; dsimp only; omega) (by dsimp only; omega)) ?_
      refine gs ?_
      have hnx : ¬ (¬ (recoverM { c with fuse := x.fuse }).2 = 0 ∧ ¬ (recoverM { c with fuse := x.fuse }).2 = 11) := fun h => t1.elim h.1 h.2
      have hg2 : riseF d (fs.take 20) = riseF (crashM (recoverM { c with fuse := x.fuse }).1 x.fates (-1)).1 ((fs.take 20).drop (k + 1)) := by rw [hg]; exact if_neg hnx
      refine br (fun b3 => ?_) (fun b3 => ?_)
      · refine gs ?_
        refine br (fun b4 => ?_) (fun b4 => ?_)
        · exact absurd ⟨b3, b4⟩ hnx
        · refine gs ?_
          rw [hx]
          refine cd (crash_ok _ x.fates (-1) (by omega)) ?_
          refine gs ?_
          refine ⟨(k + 1, (crashM (recoverM { c with fuse := x.fuse }).1 x.fates (-1)).1), ⟨by dsimp only; omega, t2, hg2⟩, (by dsimp only; omega), fits_of (gs ?_) (gs ?_) (gs ?_) (gs ?_) (gs ?_)⟩
          · first | exact True.intro | exact ⟨rfl, rfl⟩ | exact ⟨rfl, rfl, rfl⟩ | rfl | exact rowc (List.map_id _) | trivial
          · first | exact True.intro | exact ⟨rfl, rfl⟩ | exact ⟨rfl, rfl, rfl⟩ | rfl | exact rowc (List.map_id _) | trivial
          · first | exact True.intro | exact ⟨rfl, rfl⟩ | exact ⟨rfl, rfl, rfl⟩ | rfl | exact rowc (List.map_id _) | trivial
          · first | exact True.intro | exact ⟨rfl, rfl⟩ | exact ⟨rfl, rfl, rfl⟩ | rfl | exact rowc (List.map_id _) | trivial
          · first | exact True.intro | exact ⟨rfl, rfl⟩ | exact ⟨rfl, rfl, rfl⟩ | rfl | exact rowc (List.map_id _) | trivial
      · refine gs ?_
        rw [hx]
        refine cd (crash_ok _ x.fates (-1) (by omega)) ?_
        refine gs ?_
        refine ⟨(k + 1, (crashM (recoverM { c with fuse := x.fuse }).1 x.fates (-1)).1), ⟨by dsimp only; omega, t2, hg2⟩, (by dsimp only; omega), fits_of (gs ?_) (gs ?_) (gs ?_) (gs ?_) (gs ?_)⟩
        · first | exact True.intro | exact ⟨rfl, rfl⟩ | exact ⟨rfl, rfl, rfl⟩ | rfl | exact rowc (List.map_id _) | trivial
        · first | exact True.intro | exact ⟨rfl, rfl⟩ | exact ⟨rfl, rfl, rfl⟩ | rfl | exact rowc (List.map_id _) | trivial
        · first | exact True.intro | exact ⟨rfl, rfl⟩ | exact ⟨rfl, rfl, rfl⟩ | rfl | exact rowc (List.map_id _) | trivial
        · first | exact True.intro | exact ⟨rfl, rfl⟩ | exact ⟨rfl, rfl, rfl⟩ | rfl | exact rowc (List.map_id _) | trivial
        · first | exact True.intro | exact ⟨rfl, rfl⟩ | exact ⟨rfl, rfl, rfl⟩ | rfl | exact rowc (List.map_id _) | trivial
    · have hend : (fs.take 20).drop k = [] := List.drop_eq_nil_of_le (by rw [List.length_take]; omega)
      rw [hend] at hg
      refine gs ?_
      refine cl (recover_ok c (by omega) i3 (by omega)) ?_
      refine gs ?_
      rw [hg]
      exact ⟨le_refl _, rfl⟩
  · have hend : (fs.take 20).drop k = [] := List.drop_eq_nil_of_le (by rw [List.length_take]; omega)
    rw [hend] at hg
    refine gs ?_
    refine cl (recover_ok c (by omega) i3 (by omega)) ?_
    refine gs ?_
    rw [hg]
    exact ⟨le_refl _, rfl⟩
end Go.Proofs.YtnmaaijeamlplaaDoor.Ev
namespace Go.Proofs.YtnmaaijeamlplaaDoor.Ev
open Go.RowKit
open Go.Proofs.YtnmaaijeamlplaaDoor.Mem
set_option linter.unusedVariables false
set_option linter.unusedSimpArgs false
set_option maxRecDepth 100000
/-- A disk that works, with nothing loose. -/
def Up (d : Dk) : Prop := right d = true ∧ d.down = false ∧ d.loose = []
theorem right_iff (d : Dk) : right d = true ↔ (32 ≤ d.safe.length ∧ d.safe.length ≤ 2048) ∧ (∀ s ∈ d.safe, s.length = 256) ∧ ∀ w ∈ d.loose, okW d.safe.length w = true := by
  simp only [right, Bool.and_eq_true, decide_eq_true_eq, List.all_eq_true]
  exact ⟨fun h => ⟨⟨h.1.1.1, h.1.1.2⟩, h.1.2, h.2⟩, fun h => ⟨⟨⟨h.1.1, h.1.2⟩, h.2.1⟩, h.2.2⟩⟩
theorem ready0 {d : Dk} (h : right d = true) (hd : d.down = false) : ready d = 0 := by
  unfold ready
  rw [if_pos h, if_neg (by rw [hd]; simp)]
theorem okW_iff (n : Nat) (w : Wr) : okW n w = true ↔ 0 ≤ w.at_ ∧ w.at_ < n ∧ w.data.length = 256 := by
  simp only [okW, Bool.and_eq_true, decide_eq_true_eq]
  exact ⟨fun h => ⟨h.1.1, h.1.2, h.2⟩, fun h => ⟨⟨h.1, h.2.1⟩, h.2.2⟩⟩
def putP : Dk → List Wr → Dk × Int
  | d, [] => (d, 0)
  | d, w :: l => if ¬ (put d w.at_ w.data).2 = 0 then put d w.at_ w.data else putP (put d w.at_ w.data).1 l
def segm (d : Dk) (P : List Wr) : Dk × Int := if ¬ (putP d P).2 = 0 then putP d P else flush (putP d P).1
theorem put_cases {d : Dk} {w : Wr} (hr : right d = true) (hd : d.down = false) (hw : okW d.safe.length w = true) :
    (d.fuse = 0 ∧ put d w.at_ w.data = (⟨d.safe, d.loose, 0, true⟩, 11)) ∨ (d.fuse ≠ 0 ∧ ∃ f, put d w.at_ w.data = (⟨d.safe, d.loose ++ [w], f, false⟩, 0) ∧ (d.fuse < 0 → f = d.fuse) ∧ (0 ≤ d.fuse → 0 ≤ f)) := by
  have h0 := ready0 hr hd
  have hw := (okW_iff _ _).1 hw
  obtain ⟨sf, lo, fu, dn⟩ := d
  dsimp only at *
  subst hd
  unfold put
  rw [if_neg (by rw [h0]; simp), if_neg (by dsimp only; omega)]
  by_cases h : fu = 0
  · left
    refine ⟨h, ?_⟩
    have e : burn ⟨sf, lo, fu, false⟩ = (⟨sf, lo, fu, true⟩, 11) := if_pos h
    rw [e, if_pos (by simp), h]
  · right
    refine ⟨h, ?_⟩
    by_cases h2 : 0 < fu
    · have e : burn ⟨sf, lo, fu, false⟩ = (⟨sf, lo, fu - 1, false⟩, 0) := (if_neg h).trans (if_pos h2)
      rw [e, if_neg (by simp)]
      exact ⟨fu - 1, rfl, fun h => by omega, fun h => by omega⟩
    · have e : burn ⟨sf, lo, fu, false⟩ = (⟨sf, lo, fu, false⟩, 0) := (if_neg h).trans (if_neg h2)
      rw [e, if_neg (by simp)]
      exact ⟨fu, rfl, fun _ => rfl, fun h => h⟩
theorem flush_cases {d : Dk} (hr : right d = true) (hd : d.down = false) :
    (d.fuse = 0 ∧ flush d = (⟨d.safe, d.loose, 0, true⟩, 11)) ∨ (d.fuse ≠ 0 ∧ ∃ f, flush d = (⟨laid d.safe d.loose, [], f, false⟩, 0) ∧ (d.fuse < 0 → f = d.fuse) ∧ (0 ≤ d.fuse → 0 ≤ f)) := by
  have h0 := ready0 hr hd
  obtain ⟨sf, lo, fu, dn⟩ := d
  dsimp only at *
  subst hd
  unfold flush
  rw [if_neg (by rw [h0]; simp)]
  by_cases h : fu = 0
  · left
    refine ⟨h, ?_⟩
    have e : burn ⟨sf, lo, fu, false⟩ = (⟨sf, lo, fu, true⟩, 11) := if_pos h
    rw [e, if_pos (by simp), h]
  · right
    refine ⟨h, ?_⟩
    by_cases h2 : 0 < fu
    · have e : burn ⟨sf, lo, fu, false⟩ = (⟨sf, lo, fu - 1, false⟩, 0) := (if_neg h).trans (if_pos h2)
      rw [e, if_neg (by simp)]
      exact ⟨fu - 1, rfl, fun h => by omega, fun h => by omega⟩
    · have e : burn ⟨sf, lo, fu, false⟩ = (⟨sf, lo, fu, false⟩, 0) := (if_neg h).trans (if_neg h2)
      rw [e, if_neg (by simp)]
      exact ⟨fu, rfl, fun _ => rfl, fun h => h⟩
theorem putP_is : ∀ (P : List Wr) (d : Dk), right d = true → d.down = false → (∀ w ∈ P, okW d.safe.length w = true) →
    (∃ f, putP d P = (⟨d.safe, d.loose ++ P, f, false⟩, 0) ∧ (d.fuse < 0 → f = d.fuse) ∧ (0 ≤ d.fuse → 0 ≤ f)) ∨ (0 ≤ d.fuse ∧ ∃ Q, (∀ w ∈ Q, w ∈ P) ∧ putP d P = (⟨d.safe, d.loose ++ Q, 0, true⟩, 11))
  | [], d, hr, hd, hP => .inl ⟨d.fuse, by obtain ⟨a, b, c, e⟩ := d; dsimp only at *; subst hd; simp [putP], fun _ => rfl, fun h => h⟩
  | w :: P, d, hr, hd, hP => by
    have hw := hP w (by simp)
    rcases put_cases hr hd hw with ⟨h0, h1⟩ | ⟨h0, f, h1, h2, h3⟩
    · right
      refine ⟨by omega, [], fun w h => by simp at h, ?_⟩
      unfold putP
      rw [h1, if_pos (by simp), List.append_nil]
    · have hr' : right ⟨d.safe, d.loose ++ [w], f, false⟩ = true := by
        rw [right_iff] at hr ⊢
        refine ⟨hr.1, hr.2.1, fun x hx => ?_⟩
        rcases List.mem_append.1 hx with hx | hx
        · exact hr.2.2 x hx
        · rw [List.mem_singleton] at hx; subst hx; exact hw
      rcases putP_is P ⟨d.safe, d.loose ++ [w], f, false⟩ hr' rfl (fun x hx => hP x (List.mem_cons_of_mem _ hx)) with ⟨g, g1, g2, g3⟩ | ⟨g0, Q, g1, g2⟩
      · left
        refine ⟨g, ?_, fun h => (g2 (by dsimp only; rw [h2 h]; exact h)).trans (h2 h), fun h => g3 (h3 h)⟩
        unfold putP
        rw [h1, if_neg (by simp), g1]
        simp
      · right
        refine ⟨by have : 0 ≤ f := g0; rcases Int.lt_or_le d.fuse 0 with h | h; rw [h2 h] at this; omega; exact h, w :: Q, fun x hx => ?_, ?_⟩
        · rcases List.mem_cons.1 hx with rfl | hx
          · simp
          · exact List.mem_cons_of_mem _ (g1 x hx)
        · unfold putP
          rw [h1, if_neg (by simp), g2]
          simp
/-- A segment: writes that are made safe, or none of them is safe yet. -/
theorem segm_is {d : Dk} (P : List Wr) (hu : Up d) (hP : ∀ w ∈ P, okW d.safe.length w = true) :
    (∃ f, segm d P = (⟨laid d.safe P, [], f, false⟩, 0) ∧ (d.fuse < 0 → f = d.fuse) ∧ (0 ≤ d.fuse → 0 ≤ f)) ∨ (0 ≤ d.fuse ∧ ∃ Q, (∀ w ∈ Q, w ∈ P) ∧ segm d P = (⟨d.safe, Q, 0, true⟩, 11)) := by
  obtain ⟨hr, hd, hl⟩ := hu
  rcases putP_is P d hr hd hP with ⟨f, h1, h2, h3⟩ | ⟨h0, Q, h1, h2⟩
  · rw [hl, List.nil_append] at h1
    have hr' : right ⟨d.safe, P, f, false⟩ = true := by
      rw [right_iff] at hr ⊢
      exact ⟨hr.1, hr.2.1, hP⟩
    rcases flush_cases (d := ⟨d.safe, P, f, false⟩) hr' rfl with ⟨g0, g1⟩ | ⟨g0, g, g1, g2, g3⟩
    · right
      refine ⟨by have g0 : f = 0 := g0; rcases Int.lt_or_le d.fuse 0 with h | h; rw [h2 h] at g0; omega; exact h, P, fun w h => h, ?_⟩
      unfold segm
      rw [h1, if_neg (by simp), g1]
    · left
      refine ⟨g, ?_, fun h => (g2 (by dsimp only; rw [h2 h]; exact h)).trans (h2 h), fun h => g3 (h3 h)⟩
      unfold segm
      rw [h1, if_neg (by simp), g1]
  · right
    rw [hl, List.nil_append] at h2
    refine ⟨h0, Q, h1, ?_⟩
    unfold segm
    rw [h2, if_pos (by simp)]
/-- Where a sector was not written it stays. -/
theorem laid_get (P : List Wr) : ∀ (s : List (List UInt8)) (j : Nat), (∀ w ∈ P, 0 ≤ w.at_) → (∀ w ∈ P, w.at_ ≠ j) → (laid s P).getD j [] = s.getD j [] := by
  induction P with
  | nil => intro s j _ _; rfl
  | cons w P ih =>
    intro s j h0 h
    show (laid (s.set w.at_.toNat w.data) P).getD j [] = _
    rw [ih _ j (fun x hx => h0 x (List.mem_cons_of_mem _ hx)) (fun x hx => h x (List.mem_cons_of_mem _ hx))]
    have h1 := h0 w (by simp)
    have h2 := h w (by simp)
    rw [List.getD_eq_getElem?_getD, List.getElem?_set_ne (by omega), ← List.getD_eq_getElem?_getD]
/-- What was written once is there. -/
theorem laid_at (P : List Wr) : ∀ (s : List (List UInt8)) (w : Wr), w ∈ P → (∀ x ∈ P, 0 ≤ x.at_ ∧ x.at_ < s.length) → (∀ x ∈ P, x.at_ = w.at_ → x.data = w.data) → (laid s P).getD w.at_.toNat [] = w.data := by
  induction P with
  | nil => intro s w h; cases h
  | cons x P ih =>
    intro s w hw h0 h
    show (laid (s.set x.at_.toNat x.data) P).getD _ [] = _
    by_cases hm : ∃ y ∈ P, y.at_ = w.at_
    · obtain ⟨y, hy, e⟩ := hm
      have := ih (s.set x.at_.toNat x.data) y hy (fun z hz => by rw [List.length_set]; exact h0 z (List.mem_cons_of_mem _ hz)) (fun z hz ez => by rw [h z (List.mem_cons_of_mem _ hz) (ez.trans e), h y (List.mem_cons_of_mem _ hy) e])
      rw [← e, this, h y (List.mem_cons_of_mem _ hy) e]
    · have hx : w = x := by
        rcases List.mem_cons.1 hw with rfl | hw
        · rfl
        · exact absurd ⟨w, hw, rfl⟩ hm
      subst hx
      have h1 := h0 w (by simp)
      rw [show w.at_.toNat = w.at_.toNat from rfl, laid_get P _ _ (fun z hz => (h0 z (List.mem_cons_of_mem _ hz)).1) (fun z hz e => hm ⟨z, hz, by omega⟩), List.getD_eq_getElem?_getD, List.getElem?_set_self (by omega)]
      rfl
/-! ### Crashes -/
theorem wr_mem {l : List Wr} {k : Int} {x : List UInt8} (h : x ∈ wr l k) : ∃ w ∈ l, w.at_ = k ∧ x = w.data := by
  unfold wr at h
  obtain ⟨w, hw, rfl⟩ := List.mem_map.1 h
  have := List.mem_filter.1 hw
  exact ⟨w, this.1, by simpa using this.2, rfl⟩
theorem crs_is (d : Dk) (fates : List UInt8) : ∀ i j, (crs d fates i).2.getD j [] = d.safe.getD j [] ∨ ∃ w ∈ d.loose, w.at_ = j ∧ (crs d fates i).2.getD j [] = w.data
  | 0, j => .inl rfl
  | i + 1, j => by
    obtain ⟨c1, c2⟩ := crs_len d fates i
    unfold crs
    split
    · exact crs_is d fates i j
    · rename_i h0
      dsimp only
      split
      · rename_i h
        generalize hk : (fates.getD (crs d fates i).1 0).toNat % ((wr d.loose i).length + 1) = kk at h
        have hm : kk < (wr d.loose i).length + 1 := by rw [← hk]; exact Nat.mod_lt _ (by omega)
        by_cases e : i = j
        · subst e
          rcases Nat.lt_or_ge i d.safe.length with hi | hi
          · right
            obtain ⟨w, hw, e1, e2⟩ := wr_mem (getD_mem (x := []) (show kk - 1 < (wr d.loose i).length by omega))
            refine ⟨w, hw, e1, ?_⟩
            rw [List.getD_eq_getElem?_getD, List.getElem?_set_self (by omega)]
            exact e2
          · left
            rw [List.getD_eq_getElem?_getD, List.getElem?_eq_none (by rw [List.length_set]; omega), List.getD_eq_getElem?_getD, List.getElem?_eq_none (by omega)]
        · rw [List.getD_eq_getElem?_getD, List.getElem?_set_ne e, ← List.getD_eq_getElem?_getD]
          exact crs_is d fates i j
      · exact crs_is d fates i j
/-- Behind a crash: a disk that works; each sector is what it was, or one of what was written to it. -/
theorem crash_is {d : Dk} (hr : right d = true) (fates : List UInt8) (f : Int) :
    ∃ s, crashM d fates f = (⟨s, [], f, false⟩, 0) ∧ s.length = d.safe.length ∧ (∀ x ∈ s, x.length = 256) ∧ ∀ j : Nat, s.getD j [] = d.safe.getD j [] ∨ ∃ w ∈ d.loose, w.at_ = j ∧ s.getD j [] = w.data := by
  obtain ⟨c1, c2⟩ := crs_len d fates d.safe.length
  refine ⟨(crs d fates d.safe.length).2, if_neg (by rw [hr]; simp), c1, fun x hx => ?_, crs_is d fates _⟩
  obtain ⟨h1, h2, h3⟩ := (right_iff d).1 hr
  obtain ⟨j, hj, rfl⟩ := List.getElem_of_mem hx
  have e : ((crs d fates d.safe.length).2)[j] = (crs d fates d.safe.length).2.getD j [] := by rw [List.getD_eq_getElem?_getD, List.getElem?_eq_getElem hj]; rfl
  rw [e]
  rcases crs_is d fates d.safe.length j with h | ⟨w, hw, _, h⟩
  · rw [h]
    exact h2 _ (getD_mem (by omega))
  · rw [h]
    exact ((okW_iff _ _).1 (h3 w hw)).2.2
theorem crash_up {s : List (List UInt8)} {f : Int} (h : 32 ≤ s.length ∧ s.length ≤ 2048) (hs : ∀ x ∈ s, x.length = 256) : Up ⟨s, [], f, false⟩ :=
  ⟨(right_iff _).2 ⟨h, hs, fun w hw => by cases hw⟩, rfl, rfl⟩
end Go.Proofs.YtnmaaijeamlplaaDoor.Ev
namespace Go.Proofs.YtnmaaijeamlplaaDoor.Ev
open Go.RowKit
open Go.Proofs.YtnmaaijeamlplaaDoor.Mem
set_option linter.unusedVariables false
set_option linter.unusedSimpArgs false
set_option maxRecDepth 100000
/-- Sectors as writes from a place on. -/
def ats (a : Nat) : List (List UInt8) → List Wr
  | [] => []
  | x :: l => ⟨(a : Int), x⟩ :: ats (a + 1) l
theorem putAll_is (a : Nat) : ∀ (l : List (List UInt8)) (d : Dk) (i : Nat), a + i + l.length < 1000000 → putAll (a : Int) d i l = putP d (ats (a + i) l)
  | [], d, i, h => rfl
  | x :: l, d, i, h => by
    simp only [List.length_cons] at h
    unfold putAll
    show _ = putP d (⟨((a + i : Nat) : Int), x⟩ :: ats (a + i + 1) l)
    unfold putP
    rw [wr64 (x := (a : Int) + (i : Int)) (by omega) (by omega), putAll_is a l _ (i + 1) (by omega)]
    rfl
theorem putFl_is (d : Dk) (a : Nat) (l : List (List UInt8)) (h : a + l.length < 1000000) : putFl d (a : Int) l = segm d (ats a l) := by
  unfold putFl segm
  rw [putAll_is a l d 0 (by omega)]
  rfl
def offs (off : Int) (l : List Wr) : List Wr := l.map fun w => ⟨off + w.at_, w.data⟩
theorem putW_is (off : Int) : ∀ (l : List Wr) (d : Dk), putW off d l = putP d (offs off l)
  | [], d => rfl
  | w :: l, d => by
    unfold putW
    show _ = putP d (⟨off + w.at_, w.data⟩ :: offs off l)
    unfold putP
    rw [putW_is off l]
theorem bring_is (d : Dk) (e : Int) (l : List Wr) : bringM d e l = if ¬ (segm d (offs ((d.safe.length / 4 : Nat) : Int) l)).2 = 0 then segm d (offs ((d.safe.length / 4 : Nat) : Int) l) else segm (segm d (offs ((d.safe.length / 4 : Nat) : Int) l)).1 (ats 0 [begin_ (e + 1)]) := by
  unfold bringM
  rw [putW_is]
  have e1 : ∀ d' : Dk, putFl d' 0 [begin_ (e + 1)] = segm d' (ats 0 [begin_ (e + 1)]) := fun d' => putFl_is d' 0 _ (by simp)
  rw [e1]
  generalize offs ((d.safe.length / 4 : Nat) : Int) l = P
  have e2 : segm d P = if ¬ (putP d P).2 = 0 then putP d P else flush (putP d P).1 := rfl
  rw [e2]
  by_cases h : (putP d P).2 = 0
  · rw [if_neg (show ¬ ¬ (putP d P).2 = 0 from fun h' => h' h), if_neg (show ¬ ¬ (putP d P).2 = 0 from fun h' => h' h)]
  · rw [if_pos h, if_pos h, if_pos h]
theorem ats_mem (l : List (List UInt8)) : ∀ (a : Nat) (w : Wr), w ∈ ats a l → ∃ i, i < l.length ∧ w.at_ = ((a + i : Nat) : Int) ∧ w.data = l.getD i [] := by
  induction l with
  | nil => intro a w h; cases h
  | cons x l ih =>
    intro a w h
    rcases List.mem_cons.1 h with rfl | h
    · exact ⟨0, by simp, rfl, rfl⟩
    · obtain ⟨i, h1, h2, h3⟩ := ih (a + 1) w h
      exact ⟨i + 1, by simp; omega, by rw [h2]; omega, by rw [h3]; rfl⟩
theorem ats_has (l : List (List UInt8)) : ∀ (a i : Nat), i < l.length → (⟨((a + i : Nat) : Int), l.getD i []⟩ : Wr) ∈ ats a l := by
  induction l with
  | nil => intro a i h; simp at h
  | cons x l ih =>
    intro a i h
    cases i with
    | zero => exact List.mem_cons_self
    | succ i =>
      have := ih (a + 1) i (by simpa using h)
      refine List.mem_cons_of_mem _ ?_
      rw [show a + (i + 1) = a + 1 + i by omega]
      exact this
/-- What sectors hold behind a row of them was written. -/
theorem laid_ats (s : List (List UInt8)) (a : Nat) (l : List (List UInt8)) (h : a + l.length ≤ s.length) (j : Nat) : (laid s (ats a l)).getD j [] = if a ≤ j ∧ j < a + l.length then l.getD (j - a) [] else s.getD j [] := by
  split
  · rename_i hj
    have := laid_at (ats a l) s ⟨((a + (j - a) : Nat) : Int), l.getD (j - a) []⟩ (ats_has l a (j - a) (by omega)) (fun x hx => by obtain ⟨i, h1, h2, _⟩ := ats_mem l a x hx; rw [h2]; omega) (fun x hx e => by
      obtain ⟨i, h1, h2, h3⟩ := ats_mem l a x hx
      rw [h2] at e
      dsimp only at e ⊢
      rw [h3, show i = j - a by omega])
    dsimp only at this
    rw [show ((a + (j - a) : Nat) : Int).toNat = j by omega] at this
    exact this
  · rename_i hj
    exact laid_get _ _ _ (fun w hw => by obtain ⟨i, h1, h2, _⟩ := ats_mem l a w hw; rw [h2]; omega) (fun w hw => by obtain ⟨i, h1, h2, _⟩ := ats_mem l a w hw; rw [h2]; omega)
theorem got_lo {d : Dk} (h : d.loose = []) (a : Int) : got d a = d.safe.getD a.toNat [] := by
  unfold got
  rw [h]
  rfl
/-! ### Numbers -/
theorem small_nums : ∀ e : Fin 24, val (((begin_ e).take 12).drop 4) 8 = e ∧ (begin_ (e : Int)).take 4 = [72, 76, 79, 71] ∧ (begin_ (e : Int)).length = 256 := by decide +kernel
theorem nb8_ne : ∀ e : Fin 24, ∀ e' : Fin 24, nb 8 e = nb 8 e' → e = e' := by decide +kernel
theorem nb4_val : ∀ n : Fin 128, valS (nb 4 n) = n := by decide +kernel
theorem begin_is {e : Int} (h0 : 0 ≤ e) (h : e < 24) : val (((begin_ e).take 12).drop 4) 8 = e ∧ (begin_ e).take 4 = [72, 76, 79, 71] ∧ (begin_ e).length = 256 := by
  obtain ⟨n, rfl⟩ := Int.eq_ofNat_of_zero_le h0
  exact small_nums ⟨n, by omega⟩
theorem nb8_inj {e e' : Int} (h0 : 0 ≤ e) (h : e < 24) (h0' : 0 ≤ e') (h' : e' < 24) (he : nb 8 e = nb 8 e') : e = e' := by
  obtain ⟨n, rfl⟩ := Int.eq_ofNat_of_zero_le h0
  obtain ⟨m, rfl⟩ := Int.eq_ofNat_of_zero_le h0'
  have := nb8_ne ⟨n, by omega⟩ ⟨m, by omega⟩ he
  have := congrArg Fin.val this
  dsimp only at this
  omega
theorem nb4_is {n : Int} (h0 : 0 ≤ n) (h : n < 128) : valS (nb 4 n) = n := by
  obtain ⟨n, rfl⟩ := Int.eq_ofNat_of_zero_le h0
  exact nb4_val ⟨n, by omega⟩
/-! ### What disks are -/
/-- A disk whose log is empty, of this epoch. -/
structure Clean (d : Dk) (e : Int) : Prop where
  u : Up d
  n : 32 ≤ d.safe.length ∧ d.safe.length ≤ 95
  b : d.safe.getD 0 [] = begin_ e
  q : 1 ≤ e ∧ e < 22
  m : endedM d e (d.safe.getD 1 []) = 0
theorem epoch_is {d : Dk} {e : Int} (hu : Up d) (hn : 32 ≤ d.safe.length) (hb : d.safe.getD 0 [] = begin_ e) (he : 1 ≤ e ∧ e < 24) : epoch d = (e, true) := by
  have hg : get d 0 = (begin_ e, 0) := by
    rw [get_is (ready0 hu.1 hu.2.1) (by omega) (by omega), got_lo hu.2.2]
    exact congrArg (·, 0) hb
  obtain ⟨h1, h2, h3⟩ := begin_is (e := e) (by omega) he.2
  unfold epoch
  rw [hg]
  rw [if_pos ⟨rfl, h2⟩, h1]
  simp [he.1]
theorem cur_is {d : Dk} {e : Int} (hu : Up d) (hn : 32 ≤ d.safe.length) (hb : d.safe.getD 0 [] = begin_ e) (he : 1 ≤ e ∧ e < 24) : current d = (e, 0) := by
  unfold current
  rw [if_neg (by rw [hu.2.1]; simp), epoch_is hu hn hb he, if_pos ⟨rfl, by dsimp only; omega⟩]
theorem ended_congr {d d' : Dk} (h : d.safe.length = d'.safe.length) (e : Int) (s : List UInt8) : endedM d e s = endedM d' e s := by
  unfold endedM fitsB
  rw [h]
/-- A recovery of a clean disk. -/
theorem recover_clean {d : Dk} {e : Int} (h : Clean d e) : recoverM d = (d, 0) := by
  have hc := cur_is h.u h.n.1 h.b ⟨h.q.1, by have := h.q.2; omega⟩
  unfold recoverM
  rw [if_neg (by rw [h.u.1]; simp), hc, if_neg (by simp), if_pos]
  unfold recN
  rw [hc, got_lo h.u.2.2]
  exact congrArg Int.toNat h.m
/-- The same sectors, another fuse. -/
theorem Clean.fuse {d : Dk} {e : Int} (h : Clean d e) (f : Int) : Clean { d with fuse := f } e :=
  ⟨⟨(right_iff _).2 ((right_iff d).1 h.u.1), h.u.2.1, h.u.2.2⟩, h.n, h.b, h.q, (ended_congr (d := { d with fuse := f }) (d' := d) rfl _ _).trans h.m⟩
/-- The log's size. -/
def lg (d : Dk) : Nat := d.safe.length / 4
/-- Writes at homes that rise. -/
def Wok (d : Dk) (l : List Wr) : Prop := riseL (lim d) (-1) l = true ∧ (∀ w ∈ l, w.data.length = 256) ∧ l.length ≠ 0 ∧ fitsB d l.length = true
theorem Wok.at {d : Dk} {l : List Wr} (h : Wok d l) : ∀ w ∈ l, 0 ≤ w.at_ ∧ w.at_ < ((d.safe.length - lg d : Nat) : Int) := fun w hw => by
  have := riseL_mem _ l _ h.1 w hw
  unfold lim lg at *
  omega
theorem Wok.fit {d : Dk} {l : List Wr} (h : Wok d l) : (l.length + 60) / 61 + l.length + 2 ≤ lg d := by
  have := h.2.2.2
  simp only [fitsB, Bool.and_eq_true, decide_eq_true_eq] at this
  unfold lg
  omega
theorem rise_one (lim : Int) : ∀ (l : List Wr) (last : Int), riseL lim last l = true → ∀ x ∈ l, ∀ y ∈ l, x.at_ = y.at_ → x = y
  | [], _, _, x, hx, _, _, _ => by cases hx
  | w :: l, last, h, x, hx, y, hy, e => by
    have h1 : riseL lim w.at_ l = true := by
      unfold riseL at h
      split at h
      · cases h
      · exact h
    have h2 := riseL_mem lim l _ h1
    rcases List.mem_cons.1 hx with rfl | hx1
    · rcases List.mem_cons.1 hy with rfl | hy1
      · rfl
      · have := h2 y hy1; omega
    · rcases List.mem_cons.1 hy with rfl | hy1
      · have := h2 x hx1; omega
      · exact rise_one lim l _ h1 x hx1 y hy1 e
/-- What homes hold behind a commit. -/
def want (n : Nat) (s : List (List UInt8)) (l : List Wr) : List (List UInt8) := laid s (offs (n : Int) l)
theorem offs_mem {off : Int} {l : List Wr} {w : Wr} (h : w ∈ offs off l) : ∃ x ∈ l, w = ⟨off + x.at_, x.data⟩ := by
  obtain ⟨x, hx, rfl⟩ := List.mem_map.1 h
  exact ⟨x, hx, rfl⟩
end Go.Proofs.YtnmaaijeamlplaaDoor.Ev
namespace Go.Proofs.YtnmaaijeamlplaaDoor.Ev
open Go.RowKit
open Go.Proofs.YtnmaaijeamlplaaDoor.Mem
set_option linter.unusedVariables false
set_option linter.unusedSimpArgs false
set_option maxRecDepth 100000
theorem laid_all {P : List Wr} : ∀ {s : List (List UInt8)}, (∀ x ∈ s, x.length = 256) → (∀ w ∈ P, w.data.length = 256) → ∀ x ∈ laid s P, x.length = 256 := by
  induction P with
  | nil => intro s h _; exact h
  | cons w P ih =>
    intro s h hP
    refine ih (fun x hx => ?_) (fun w hw => hP w (List.mem_cons_of_mem _ hw))
    rcases List.mem_or_eq_of_mem_set hx with hx | rfl
    · exact h x hx
    · exact hP w (by simp)
/-- What a commit is about: the sectors ahead of it, the epoch, the writes. -/
structure Cm where
  b : List (List UInt8)
  e : Int
  l : List Wr
def Cm.n (c : Cm) : Nat := c.b.length / 4
def Cm.B (c : Cm) : List (List UInt8) := bodyS c.e c.l
def Cm.E (c : Cm) : List UInt8 := endS c.e c.l.length c.B
def Cm.W (c : Cm) : List (List UInt8) := laid c.b (offs (c.n : Int) c.l)
structure Cm.Ok (c : Cm) : Prop where
  len : 32 ≤ c.b.length ∧ c.b.length ≤ 95
  all : ∀ x ∈ c.b, x.length = 256
  bg : c.b.getD 0 [] = begin_ c.e
  q : 1 ≤ c.e ∧ c.e < 21
  at_ : ∀ w ∈ c.l, 0 ≤ w.at_ ∧ w.at_ < ((c.b.length - c.n : Nat) : Int) ∧ w.data.length = 256
  one : ∀ x ∈ c.l, ∀ y ∈ c.l, x.at_ = y.at_ → x = y
  pos : c.l.length ≠ 0
  fit : (c.l.length + 60) / 61 + c.l.length + 2 ≤ c.n
  m : endedM ⟨c.b, [], 0, false⟩ c.e (c.b.getD 1 []) = 0
structure Sec (c : Cm) (s : List (List UInt8)) : Prop where
  len : s.length = c.b.length
  all : ∀ x ∈ s, x.length = 256
structure S0 (c : Cm) (s : List (List UInt8)) : Prop extends Sec c s where
  s0 : s.getD 0 [] = begin_ c.e
  s1 : s.getD 1 [] = c.b.getD 1 []
  h : ∀ j, c.n ≤ j → s.getD j [] = c.b.getD j []
structure S1 (c : Cm) (s : List (List UInt8)) : Prop extends Sec c s where
  s0 : s.getD 0 [] = begin_ c.e
  s1 : s.getD 1 [] = c.E
  s2 : ∀ i, i < c.B.length → s.getD (2 + i) [] = c.B.getD i []
  h : ∀ j, c.n ≤ j → s.getD j [] = c.b.getD j [] ∨ s.getD j [] = c.W.getD j []
structure S2 (c : Cm) (s : List (List UInt8)) : Prop extends Sec c s where
  s0 : s.getD 0 [] = begin_ (c.e + 1)
  s1 : s.getD 1 [] = c.E
  h : ∀ j, c.n ≤ j → s.getD j [] = c.W.getD j []
section
variable {c : Cm} {s s' : List (List UInt8)}
theorem Cm.Ok.Blen (hc : c.Ok) : c.B.length = (c.l.length + 60) / 61 + c.l.length := bodyS_len _ _
theorem Cm.Ok.Ball (hc : c.Ok) : ∀ x ∈ c.B, x.length = 256 := bodyS_all _ _ fun w hw => (hc.at_ w hw).2.2
theorem Cm.Ok.Elen (hc : c.Ok) : c.E.length = 256 := filled_len _ (by simp only [List.length_cons, List.length_append, nb_len, sha_len]; omega)
theorem Cm.Ok.offs_at (hc : c.Ok) {w : Wr} (h : w ∈ offs (c.n : Int) c.l) : (c.n : Int) ≤ w.at_ ∧ w.at_ < c.b.length ∧ w.data.length = 256 := by
  obtain ⟨x, hx, rfl⟩ := offs_mem h
  have := hc.at_ x hx
  have hn : c.n ≤ c.b.length := by unfold Cm.n; omega
  dsimp only
  omega
theorem Cm.Ok.offs_one (hc : c.Ok) {w w' : Wr} (h : w ∈ offs (c.n : Int) c.l) (h' : w' ∈ offs (c.n : Int) c.l) (e : w'.at_ = w.at_) : w'.data = w.data := by
  obtain ⟨x, hx, rfl⟩ := offs_mem h
  obtain ⟨y, hy, rfl⟩ := offs_mem h'
  dsimp only at e ⊢
  rw [hc.one x hx y hy (by omega)]
/-- Where it is written, what is written; elsewhere nothing. -/
theorem Cm.Ok.home (hc : c.Ok) (hl : s.length = c.b.length) (j : Nat) : (∃ w ∈ offs (c.n : Int) c.l, w.at_ = j ∧ (laid s (offs (c.n : Int) c.l)).getD j [] = w.data ∧ c.W.getD j [] = w.data) ∨ ((∀ w ∈ offs (c.n : Int) c.l, w.at_ ≠ j) ∧ (laid s (offs (c.n : Int) c.l)).getD j [] = s.getD j [] ∧ c.W.getD j [] = c.b.getD j []) := by
  by_cases h : ∃ w ∈ offs (c.n : Int) c.l, w.at_ = j
  · obtain ⟨w, hw, e⟩ := h
    left
    have k : ∀ t : List (List UInt8), t.length = c.b.length → (laid t (offs (c.n : Int) c.l)).getD j [] = w.data := fun t ht => by
      have := laid_at (offs (c.n : Int) c.l) t w hw (fun x hx => by have := hc.offs_at hx; omega) (fun x hx ex => hc.offs_one hw hx ex)
      rwa [show w.at_.toNat = j by omega] at this
    exact ⟨w, hw, e, k s hl, k c.b rfl⟩
  · right
    have h' : ∀ w ∈ offs (c.n : Int) c.l, w.at_ ≠ j := fun w hw e => h ⟨w, hw, e⟩
    exact ⟨h', laid_get _ _ _ (fun w hw => by have := (hc.offs_at hw).1; omega) h', laid_get _ _ _ (fun w hw => by have := (hc.offs_at hw).1; omega) h'⟩
theorem Cm.Ok.nle (hc : c.Ok) : 8 ≤ c.n ∧ 4 * c.n ≤ c.b.length := by have := hc.len; unfold Cm.n; omega
theorem Sec.laid (h : Sec c s) {P : List Wr} (hP : ∀ w ∈ P, w.data.length = 256) : Sec c (Ev.laid s P) := ⟨by rw [laid_len]; exact h.len, laid_all h.all hP⟩
theorem Sec.crash (h : Sec c s) {Q : List Wr} (hQ : ∀ w ∈ Q, okW c.b.length w = true) (hc : c.Ok) (fates : List UInt8) (f g : Int) (b : Bool) : ∃ s', crashM ⟨s, Q, f, b⟩ fates g = (⟨s', [], g, false⟩, 0) ∧ Sec c s' ∧ ∀ j : Nat, s'.getD j [] = s.getD j [] ∨ ∃ w ∈ Q, w.at_ = j ∧ s'.getD j [] = w.data := by
  have hr : right ⟨s, Q, f, b⟩ = true := (right_iff _).2 ⟨by dsimp only; rw [h.len]; have := hc.len; omega, h.all, fun w hw => by dsimp only; rw [h.len]; exact hQ w hw⟩
  obtain ⟨s', h1, h2, h3, h4⟩ := crash_is hr fates g
  exact ⟨s', h1, ⟨h2.trans h.len, h3⟩, h4⟩
theorem Sec.up (h : Sec c s) (hc : c.Ok) (f : Int) : Up ⟨s, [], f, false⟩ := crash_up (by rw [h.len]; have := hc.len; omega) h.all
theorem Cm.Ok.okB (hc : c.Ok) : ∀ w ∈ ats 2 c.B, okW c.b.length w = true := fun w hw => by
  obtain ⟨i, h1, h2, h3⟩ := ats_mem _ _ w hw
  have := hc.Blen
  have := hc.fit
  have := hc.nle
  exact (okW_iff _ _).2 ⟨by omega, by omega, by rw [h3]; exact hc.Ball _ (getD_mem h1)⟩
theorem Cm.Ok.okE (hc : c.Ok) : ∀ w ∈ ats 1 [c.E], okW c.b.length w = true := fun w hw => by
  obtain ⟨i, h1, h2, h3⟩ := ats_mem _ _ w hw
  simp only [List.length_cons, List.length_nil] at h1
  have := hc.nle
  obtain rfl : i = 0 := by omega
  exact (okW_iff _ _).2 ⟨by omega, by omega, by rw [h3]; exact hc.Elen⟩
theorem Cm.Ok.okG (hc : c.Ok) : ∀ w ∈ ats 0 [begin_ (c.e + 1)], okW c.b.length w = true := fun w hw => by
  obtain ⟨i, h1, h2, h3⟩ := ats_mem _ _ w hw
  simp only [List.length_cons, List.length_nil] at h1
  have := hc.nle
  obtain rfl : i = 0 := by omega
  exact (okW_iff _ _).2 ⟨by omega, by omega, by rw [h3]; exact (begin_is (by have := hc.q; omega) (by have := hc.q; omega)).2.2⟩
theorem Cm.Ok.okO (hc : c.Ok) : ∀ w ∈ offs (c.n : Int) c.l, okW c.b.length w = true := fun w hw => by
  have := hc.offs_at hw
  exact (okW_iff _ _).2 ⟨by omega, by omega, by omega⟩
theorem okD {n : Nat} {P : List Wr} (h : ∀ w ∈ P, okW n w = true) : ∀ w ∈ P, w.data.length = 256 := fun w hw => ((okW_iff _ _).1 (h w hw)).2.2
/-- What stands on a disk at any time. -/
def St3 (c : Cm) (s : List (List UInt8)) : Prop := S0 c s ∨ S1 c s ∨ S2 c s
/-! The ends of falls. -/
theorem fall1 (hc : c.Ok) (h : S0 c s) {Q : List Wr} (hQ : ∀ w ∈ Q, w ∈ ats 2 c.B) (hs' : Sec c s') (h' : ∀ j : Nat, s'.getD j [] = s.getD j [] ∨ ∃ w ∈ Q, w.at_ = j ∧ s'.getD j [] = w.data) : S0 c s' := by
  have k : ∀ j : Nat, (j < 2 ∨ c.n ≤ j) → s'.getD j [] = s.getD j [] := fun j hj => (h' j).elim id fun ⟨w, hw, e, _⟩ => by
    obtain ⟨i, h1, h2, _⟩ := ats_mem _ _ w (hQ w hw)
    have := hc.Blen
    have := hc.fit
    omega
  exact ⟨hs', (k 0 (by omega)).trans h.s0, (k 1 (by omega)).trans h.s1, fun j hj => (k j (.inr hj)).trans (h.h j hj)⟩
theorem fall2 (hc : c.Ok) (h : S0 c s) {Q : List Wr} (hQ : ∀ w ∈ Q, w ∈ ats 1 [c.E]) (hs' : Sec c s') (h' : ∀ j : Nat, s'.getD j [] = (laid s (ats 2 c.B)).getD j [] ∨ ∃ w ∈ Q, w.at_ = j ∧ s'.getD j [] = w.data) : S0 c s' ∨ S1 c s' := by
  have hb := hc.Blen
  have hf := hc.fit
  have hn := hc.nle
  have hl : 2 + c.B.length ≤ s.length := by rw [h.len]; omega
  have la := fun j => laid_ats s 2 c.B hl j
  have k : ∀ j : Nat, j ≠ 1 → s'.getD j [] = (laid s (ats 2 c.B)).getD j [] := fun j hj => (h' j).elim id fun ⟨w, hw, e, _⟩ => by
    obtain ⟨i, h1, h2, _⟩ := ats_mem _ _ w (hQ w hw)
    simp only [List.length_cons, List.length_nil] at h1
    omega
  have k0 : s'.getD 0 [] = begin_ c.e := by rw [k 0 (by omega), la, if_neg (by omega)]; exact h.s0
  have kh : ∀ j, c.n ≤ j → s'.getD j [] = c.b.getD j [] := fun j hj => by rw [k j (by omega), la, if_neg (by omega)]; exact h.h j hj
  rcases h' 1 with h1 | ⟨w, hw, e, h1⟩
  · left
    exact ⟨hs', k0, by rw [h1, la, if_neg (by omega)]; exact h.s1, kh⟩
  · right
    obtain ⟨i, g1, g2, g3⟩ := ats_mem _ _ w (hQ w hw)
    simp only [List.length_cons, List.length_nil] at g1
    obtain rfl : i = 0 := by omega
    refine ⟨hs', k0, by rw [h1, g3]; rfl, fun i hi => ?_, fun j hj => .inl (kh j hj)⟩
    rw [k _ (by omega), la, if_pos (by omega)]
    congr 1
    omega
theorem fall3 (hc : c.Ok) (h : S1 c s) {Q : List Wr} (hQ : ∀ w ∈ Q, w ∈ offs (c.n : Int) c.l) (hs' : Sec c s') (h' : ∀ j : Nat, s'.getD j [] = s.getD j [] ∨ ∃ w ∈ Q, w.at_ = j ∧ s'.getD j [] = w.data) : S1 c s' := by
  have hb := hc.Blen
  have hf := hc.fit
  have k : ∀ j : Nat, j < c.n → s'.getD j [] = s.getD j [] := fun j hj => (h' j).elim id fun ⟨w, hw, e, _⟩ => by
    have := hc.offs_at (hQ w hw)
    omega
  refine ⟨hs', (k 0 (by omega)).trans h.s0, (k 1 (by omega)).trans h.s1, fun i hi => (k _ (by omega)).trans (h.s2 i hi), fun j hj => ?_⟩
  rcases h' j with h1 | ⟨w, hw, e, h1⟩
  · rw [h1]; exact h.h j hj
  · right
    rcases hc.home (s := c.b) rfl j with ⟨w', hw', e', _, h2⟩ | ⟨h2, _⟩
    · rw [h1, h2]; exact hc.offs_one hw' (hQ w hw) (e.trans e'.symm)
    · exact absurd e (h2 w (hQ w hw))
/-- Behind the homes' writes. -/
theorem home3 (hc : c.Ok) (h : S1 c s) : ∀ j : Nat, (laid s (offs (c.n : Int) c.l)).getD j [] = if c.n ≤ j then c.W.getD j [] else s.getD j [] := fun j => by
  rcases hc.home h.len j with ⟨w, hw, e, h1, h2⟩ | ⟨h0, h1, h2⟩
  · rw [if_pos (by have := hc.offs_at hw; omega), h1, h2]
  · split
    · rename_i hj
      rw [h1, h2]
      rcases h.h j hj with h3 | h3
      · exact h3
      · rw [h3, h2]
    · exact h1
theorem fall4 (hc : c.Ok) (h : S1 c s) {Q : List Wr} (hQ : ∀ w ∈ Q, w ∈ ats 0 [begin_ (c.e + 1)]) (hs' : Sec c s') (h' : ∀ j : Nat, s'.getD j [] = (laid s (offs (c.n : Int) c.l)).getD j [] ∨ ∃ w ∈ Q, w.at_ = j ∧ s'.getD j [] = w.data) : S1 c s' ∨ S2 c s' := by
  have hb := hc.Blen
  have hf := hc.fit
  have k : ∀ j : Nat, j ≠ 0 → s'.getD j [] = (laid s (offs (c.n : Int) c.l)).getD j [] := fun j hj => (h' j).elim id fun ⟨w, hw, e, _⟩ => by
    obtain ⟨i, h1, h2, _⟩ := ats_mem _ _ w (hQ w hw)
    simp only [List.length_cons, List.length_nil] at h1
    omega
  have k1 : s'.getD 1 [] = c.E := by rw [k 1 (by omega), home3 hc h, if_neg (by omega)]; exact h.s1
  have kh : ∀ j, c.n ≤ j → s'.getD j [] = c.W.getD j [] := fun j hj => by rw [k j (by omega), home3 hc h, if_pos hj]
  rcases h' 0 with h1 | ⟨w, hw, e, h1⟩
  · left
    refine ⟨hs', by rw [h1, home3 hc h, if_neg (by omega)]; exact h.s0, k1, fun i hi => ?_, fun j hj => .inr (kh j hj)⟩
    rw [k _ (by omega), home3 hc h, if_neg (by omega)]
    exact h.s2 i hi
  · right
    obtain ⟨i, g1, g2, g3⟩ := ats_mem _ _ w (hQ w hw)
    simp only [List.length_cons, List.length_nil] at g1
    obtain rfl : i = 0 := by omega
    exact ⟨hs', by rw [h1, g3]; rfl, k1, kh⟩
theorem done4 (hc : c.Ok) (h : S1 c s) : S2 c (laid (laid s (offs (c.n : Int) c.l)) (ats 0 [begin_ (c.e + 1)])) := by
  have hf := hc.fit
  have hn := hc.nle
  have hs1 : Sec c (laid s (offs (c.n : Int) c.l)) := h.toSec.laid (okD hc.okO)
  have la := fun j => laid_ats (laid s (offs (c.n : Int) c.l)) 0 [begin_ (c.e + 1)] (by rw [hs1.len]; simp; omega) j
  simp only [List.length_cons, List.length_nil] at la
  refine ⟨hs1.laid (okD hc.okG), by rw [la, if_pos (by omega)]; rfl, by rw [la, if_neg (by omega), home3 hc h, if_neg (by omega)]; exact h.s1, fun j hj => by rw [la, if_neg (by omega), home3 hc h, if_pos hj]⟩
theorem body2 (hc : c.Ok) (h : S0 c s) : S1 c (laid (laid s (ats 2 c.B)) (ats 1 [c.E])) := by
  have hb := hc.Blen
  have hf := hc.fit
  have hn := hc.nle
  have hs1 : Sec c (laid s (ats 2 c.B)) := h.toSec.laid (okD hc.okB)
  have la := fun j => laid_ats s 2 c.B (by rw [h.len]; omega) j
  have lb := fun j => laid_ats (laid s (ats 2 c.B)) 1 [c.E] (by rw [hs1.len]; simp; omega) j
  simp only [List.length_cons, List.length_nil] at lb
  refine ⟨hs1.laid (okD hc.okE), by rw [lb, if_neg (by omega), la, if_neg (by omega)]; exact h.s0, by rw [lb, if_pos (by omega)]; rfl, fun i hi => ?_, fun j hj => .inl (by rw [lb, if_neg (by omega), la, if_neg (by omega)]; exact h.h j hj)⟩
  rw [lb, if_neg (by omega), la, if_pos (by omega)]
  congr 1
  omega
end
end Go.Proofs.YtnmaaijeamlplaaDoor.Ev
namespace Go.Proofs.YtnmaaijeamlplaaDoor.Ev
open Go.RowKit
open Go.Proofs.YtnmaaijeamlplaaDoor.Mem
set_option linter.unusedVariables false
set_option linter.unusedSimpArgs false
set_option maxRecDepth 100000
section
variable {c : Cm} {s s' : List (List UInt8)}
theorem hasPre : ∀ (a b : List UInt8), Lib.hasPrefix (a ++ b) a = true
  | [], b => by cases b <;> rfl
  | x :: a, b => by simp [Lib.hasPrefix, hasPre a b]
theorem hasPre_take : ∀ (a b : List UInt8), Lib.hasPrefix b a = true → b.take a.length = a
  | [], b, _ => by simp
  | x :: a, [], h => by simp [Lib.hasPrefix] at h
  | x :: a, y :: b, h => by
    simp only [Lib.hasPrefix, List.isPrefixOf, Bool.and_eq_true, beq_iff_eq] at h
    simp [h.1, hasPre_take a b h.2]
def mk (e : Int) : List UInt8 := 68 :: 79 :: 78 :: 69 :: nb 8 e
theorem mk_len (e : Int) : (mk e).length = 12 := by simp [mk, nb_len]
theorem E_form (e n : Int) (B : List (List UInt8)) : ∃ r, endS e n B = mk e ++ (nb 4 n ++ r) := by
  refine ⟨Sha.sha (tx (Lib.join B [])) ++ Lib.repeatL [0] (256 - (68 :: 79 :: 78 :: 69 :: (nb 8 e ++ (nb 4 n ++ Sha.sha (tx (Lib.join B []))))).length), ?_⟩
  unfold endS filled mk
  simp
theorem E_num (e n : Int) (B : List (List UInt8)) : ((endS e n B).take 16).drop 12 = nb 4 n := by
  obtain ⟨r, h⟩ := E_form e n B
  rw [h, List.drop_take, List.drop_left' (mk_len e), List.take_left' (nb_len 4 n)]
theorem ended_E {d : Dk} {e : Int} {n : Nat} (B : List (List UInt8)) (hn : n < 128) (hf : fitsB d n = true) : endedM d e (endS e n B) = n := by
  obtain ⟨r, h⟩ := E_form e n B
  unfold endedM
  rw [E_num, nb4_is (by omega) (by omega), if_pos ⟨by rw [h]; exact hasPre (mk e) _, hf⟩]
theorem ended_no {d : Dk} {e e' : Int} {n : Int} (B : List (List UInt8)) (he : 0 ≤ e ∧ e < 24) (he' : 0 ≤ e' ∧ e' < 24) (hne : e ≠ e') : endedM d e' (endS e n B) = 0 := by
  obtain ⟨r, h⟩ := E_form e n B
  unfold endedM
  rw [if_neg]
  intro hh
  have h1 := hasPre_take (mk e') _ hh.1
  rw [h, mk_len, List.take_left' (mk_len e)] at h1
  refine hne (nb8_inj he.1 he.2 he'.1 he'.2 ?_)
  unfold mk at h1
  simpa using h1
theorem clean0 (hc : c.Ok) (h : S0 c s) (f : Int) : Clean ⟨s, [], f, false⟩ c.e :=
  ⟨h.toSec.up hc f, by rw [h.len]; exact hc.len, h.s0, by have := hc.q; omega, by
    show endedM _ c.e (s.getD 1 []) = 0
    rw [h.s1, ended_congr (d' := ⟨c.b, [], 0, false⟩) h.len]
    exact hc.m⟩
theorem clean2 (hc : c.Ok) (h : S2 c s) (f : Int) : Clean ⟨s, [], f, false⟩ (c.e + 1) :=
  ⟨h.toSec.up hc f, by rw [h.len]; exact hc.len, h.s0, by have := hc.q; omega, by
    show endedM _ (c.e + 1) (s.getD 1 []) = 0
    rw [h.s1]
    exact ended_no _ (by have := hc.q; omega) (by have := hc.q; omega) (by omega)⟩
theorem fits_of_fit (hc : c.Ok) (hl : s.length = c.b.length) (f : Int) (dn : Bool) : fitsB ⟨s, [], f, dn⟩ c.l.length = true := by
  have := hc.fit
  have := hc.nle
  unfold Cm.n at *
  simp only [fitsB, Bool.and_eq_true, decide_eq_true_eq]
  rw [hl]
  omega
theorem ext_getD {a b : List (List UInt8)} (h : a.length = b.length) (h' : ∀ i, i < a.length → a.getD i [] = b.getD i []) : a = b := by
  refine List.ext_getElem h fun i h1 h2 => ?_
  have := h' i h1
  rwa [List.getD_eq_getElem?_getD, List.getD_eq_getElem?_getD, List.getElem?_eq_getElem h1, List.getElem?_eq_getElem h2] at this
theorem rec_S1 (hc : c.Ok) (h : S1 c s) (f : Int) : recN ⟨s, [], f, false⟩ = c.l.length ∧ recS ⟨s, [], f, false⟩ = c.B ∧ current ⟨s, [], f, false⟩ = (c.e, 0) ∧ got ⟨s, [], f, false⟩ 1 = c.E := by
  have hu := h.toSec.up hc f
  have hcur := cur_is hu (by rw [h.len]; exact hc.len.1) h.s0 ⟨hc.q.1, by have := hc.q; omega⟩
  have hg : got ⟨s, [], f, false⟩ 1 = c.E := by rw [got_lo rfl]; exact h.s1
  have hb := hc.Blen
  have hf := hc.fit
  have hn := hc.nle
  have hN : recN ⟨s, [], f, false⟩ = c.l.length := by
    unfold recN
    rw [hcur, hg]
    show (endedM _ c.e (endS c.e c.l.length c.B)).toNat = _
    rw [ended_E c.B (by have := hc.len; unfold Cm.n at *; omega) (fits_of_fit hc h.len f false)]
    rfl
  refine ⟨hN, ?_, hcur, hg⟩
  unfold recS
  rw [hN]
  refine ext_getD (by simp [hb]) fun i hi => ?_
  have hi : i < c.B.length := by simpa [hb] using hi
  rw [← h.s2 i hi, List.getD_eq_getElem?_getD, List.getElem?_map, List.getElem?_range (by omega)]
  show got ⟨s, [], f, false⟩ (2 + (i : Int)) = _
  rw [got_lo rfl]
  exact congrArg (fun k => s.getD k []) (by omega)
theorem plcs_at (l : List Wr) : ∀ i, i < l.length → ((plcs l).drop (4 * i)).take 4 = nb 4 (l.getD i ⟨0, []⟩).at_ := by
  induction l with
  | nil => intro i h; simp at h
  | cons w l ih =>
    intro i h
    show ((nb 4 w.at_ ++ plcs l).drop (4 * i)).take 4 = _
    cases i with
    | zero => simp [List.take_left' (nb_len 4 w.at_)]
    | succ i =>
      rw [show 4 * (i + 1) = 4 + 4 * i by omega, ← List.drop_drop, List.drop_left' (nb_len 4 w.at_)]
      exact ih i (by simpa using h)
theorem recL_S1 (hc : c.Ok) (h : S1 c s) (f : Int) : recL ⟨s, [], f, false⟩ = c.l := by
  obtain ⟨h1, h2, _, _⟩ := rec_S1 hc h f
  have hf := hc.fit
  have hlen := hc.len
  have hp := hc.pos
  have hn : c.l.length ≤ 21 := by unfold Cm.n at hf; omega
  unfold recL
  rw [h1, h2]
  refine List.ext_getElem (by simp) fun i g1 g2 => ?_
  simp only [List.getElem_map, List.getElem_range]
  have eW : c.l[i] = c.l.getD i ⟨0, []⟩ := by rw [List.getD_eq_getElem?_getD, List.getElem?_eq_getElem g2]; rfl
  have hw := hc.at_ c.l[i] (List.getElem_mem g2)
  have hone : (c.l.length + 60) / 61 = 1 := by omega
  have hB : c.B = [headS c.e c.l 0] ++ c.l.map Wr.data := by
    show bodyS c.e c.l = _
    unfold bodyS
    rw [hone]
    rfl
  unfold wrAt
  rw [show i / 61 = 0 by omega, show i % 61 = i by omega, hone, hB]
  have e1 : (([headS c.e c.l 0] ++ c.l.map Wr.data).getD 0 []) = headS c.e c.l 0 := rfl
  have e2 : (([headS c.e c.l 0] ++ c.l.map Wr.data).getD (1 + i) []) = c.l[i].data := by
    rw [List.getD_eq_getElem?_getD, Nat.add_comm, List.singleton_append, List.getElem?_cons_succ, List.getElem?_map, List.getElem?_eq_getElem g2]
    rfl
  rw [e1, e2]
  have e3 : ((headS c.e c.l 0).take (12 + 4 * i + 4)).drop (12 + 4 * i) = nb 4 (c.l[i]).at_ := by
    have : headS c.e c.l 0 = (nb 8 c.e ++ nb 4 (c.l.length : Int)) ++ (plcs c.l ++ Lib.repeatL [0] (256 - (nb 8 c.e ++ (nb 4 (c.l.length : Int) ++ plcs c.l)).length)) := by
      unfold headS filled
      rw [Nat.mul_zero, List.drop_zero, List.take_of_length_le (by omega)]
      simp
    rw [this, List.drop_take, ← List.drop_drop, List.drop_left' (by rw [List.length_append, nb_len, nb_len]), show 12 + 4 * i + 4 - (12 + 4 * i) = 4 by omega]
    have hpl := plcs_len c.l
    rw [List.drop_append_of_le_length (by omega), List.take_append_of_le_length (by rw [List.length_drop]; omega), plcs_at c.l i g2, ← eW]
  rw [e3, nb4_is hw.1 (by unfold Cm.n at hw; omega)]
/-- Bringing home. -/
theorem bring_cases (hc : c.Ok) (h : S1 c s) (f : Int) : (∃ s' g, bringM ⟨s, [], f, false⟩ c.e c.l = (⟨s', [], g, false⟩, 0) ∧ S2 c s' ∧ (f < 0 → g = f)) ∨
    (0 ≤ f ∧ ∃ t Q, bringM ⟨s, [], f, false⟩ c.e c.l = (⟨t, Q, 0, true⟩, 11) ∧ ∀ fates g, ∃ s', crashM ⟨t, Q, 0, true⟩ fates g = (⟨s', [], g, false⟩, 0) ∧ (S1 c s' ∨ S2 c s')) := by
  rw [bring_is]
  dsimp only
  rw [show s.length / 4 = c.n by unfold Cm.n; rw [h.len]]
  have hu := h.toSec.up hc f
  rcases segm_is (d := ⟨s, [], f, false⟩) (offs (c.n : Int) c.l) hu (by rw [show (⟨s, [], f, false⟩ : Dk).safe.length = c.b.length from h.len]; exact hc.okO) with ⟨g, g1, g2, g3⟩ | ⟨g0, Q, g1, g2⟩
  · rw [g1, if_neg (by simp)]
    dsimp only
    have hs1 : Sec c (laid s (offs (c.n : Int) c.l)) := h.toSec.laid (okD hc.okO)
    rcases segm_is (d := ⟨laid s (offs (c.n : Int) c.l), [], g, false⟩) (ats 0 [begin_ (c.e + 1)]) (hs1.up hc g) (by rw [show (⟨laid s (offs (c.n : Int) c.l), [], g, false⟩ : Dk).safe.length = c.b.length from hs1.len]; exact hc.okG) with ⟨k, k1, k2, k3⟩ | ⟨k0, Q, k1, k2⟩
    · left
      exact ⟨_, k, k1, done4 hc h, fun hf => (k2 (by dsimp only; rw [g2 hf]; exact hf)).trans (g2 hf)⟩
    · right
      refine ⟨by have k0 : 0 ≤ g := k0; rcases Int.lt_or_le f 0 with hh | hh; rw [g2 hh] at k0; dsimp only at k0; omega; exact hh, _, Q, k2, fun fates x => ?_⟩
      obtain ⟨s', h1, h2, h3⟩ := hs1.crash (Q := Q) (fun w hw => hc.okG w (k1 w hw)) hc fates 0 x true
      exact ⟨s', h1, fall4 hc h k1 h2 h3⟩
  · right
    rw [g2, if_pos (by simp)]
    refine ⟨g0, s, Q, rfl, fun fates x => ?_⟩
    obtain ⟨s', h1, h2, h3⟩ := h.toSec.crash (Q := Q) (fun w hw => hc.okO w (g1 w hw)) hc fates 0 x true
    exact ⟨s', h1, .inl (fall3 hc h g1 h2 h3)⟩
theorem rise_of (hc : c.Ok) (hr : riseL (lim ⟨c.b, [], 0, false⟩) (-1) c.l = true) (h : S1 c s) (f : Int) : recoverM ⟨s, [], f, false⟩ = bringM ⟨s, [], f, false⟩ c.e c.l := by
  obtain ⟨h1, h2, h3, h4⟩ := rec_S1 hc h f
  have h5 := recL_S1 hc h f
  have hu := h.toSec.up hc f
  unfold recoverM
  rw [if_neg (by rw [hu.1]; simp), h3, if_neg (by simp), h1, if_neg hc.pos, h2, h4, h5, if_neg]
  intro hh
  rcases hh with hh | hh
  · exact hh rfl
  · rw [show lim ⟨s, [], f, false⟩ = lim ⟨c.b, [], 0, false⟩ by unfold lim; dsimp only; rw [h.len], hr] at hh
    cases hh
end
end Go.Proofs.YtnmaaijeamlplaaDoor.Ev
namespace Go.Proofs.YtnmaaijeamlplaaDoor.Ev
open Go.RowKit
open Go.Proofs.YtnmaaijeamlplaaDoor.Mem
set_option linter.unusedVariables false
set_option linter.unusedSimpArgs false
set_option maxRecDepth 100000
theorem Clean.ok {d : Dk} {e : Int} {l : List Wr} (h : Clean d e) (hw : Wok d l) (he : e < 21) : (⟨d.safe, e, l⟩ : Cm).Ok :=
  ⟨h.n, ((right_iff d).1 h.u.1).2.1, h.b, by have := h.q; dsimp only; omega, fun w hw' => ⟨(hw.at w hw').1, (hw.at w hw').2, hw.2.1 w hw'⟩, rise_one _ _ _ hw.1, hw.2.2.1, hw.fit, (ended_congr rfl _ _).trans h.m⟩
theorem S0.self {d : Dk} {e : Int} {l : List Wr} (h : Clean d e) : S0 ⟨d.safe, e, l⟩ d.safe := ⟨⟨rfl, ((right_iff d).1 h.u.1).2.1⟩, h.b, rfl, fun _ _ => rfl⟩
theorem commit_form {d : Dk} {e : Int} {l : List Wr} (h : Clean d e) (hw : Wok d l) (he : e < 21) : commitM d l =
    if ¬ (segm d (ats 2 (bodyS e l))).2 = 0 then segm d (ats 2 (bodyS e l)) else
    if ¬ (segm (segm d (ats 2 (bodyS e l))).1 (ats 1 [endS e l.length (bodyS e l)])).2 = 0 then segm (segm d (ats 2 (bodyS e l))).1 (ats 1 [endS e l.length (bodyS e l)]) else
    bringM (segm (segm d (ats 2 (bodyS e l))).1 (ats 1 [endS e l.length (bodyS e l)])).1 e l := by
  have hcur := cur_is h.u h.n.1 h.b ⟨h.q.1, by omega⟩
  have hf := hw.fit
  have hn := h.n
  unfold lg at hf
  have p1 : ∀ d' : Dk, putFl d' 2 (bodyS e l) = segm d' (ats 2 (bodyS e l)) := fun d' => putFl_is d' 2 _ (by rw [bodyS_len]; omega)
  have p2 : ∀ d' : Dk, putFl d' 1 [endS e l.length (bodyS e l)] = segm d' (ats 1 [endS e l.length (bodyS e l)]) := fun d' => putFl_is d' 1 _ (by simp)
  unfold commitM
  rw [if_neg (fun hh => hh ⟨h.u.1, hw.1, List.all_eq_true.2 fun w hw' => decide_eq_true (hw.2.1 w hw')⟩), hcur, if_neg (by simp), if_neg hw.2.2.1, if_neg (by rw [hw.2.2.2]; simp)]
  dsimp only
  rw [p1, p2]
theorem commit_cases {d : Dk} {e : Int} {l : List Wr} (h : Clean d e) (hw : Wok d l) (he : e < 21) :
    (∃ s g, commitM d l = (⟨s, [], g, false⟩, 0) ∧ S2 ⟨d.safe, e, l⟩ s ∧ (d.fuse < 0 → g = d.fuse)) ∨
    (0 ≤ d.fuse ∧ ∃ t Q, commitM d l = (⟨t, Q, 0, true⟩, 11) ∧ ∀ fates g, ∃ s', crashM ⟨t, Q, 0, true⟩ fates g = (⟨s', [], g, false⟩, 0) ∧ St3 ⟨d.safe, e, l⟩ s') := by
  have hc := h.ok hw he
  have h0 : S0 ⟨d.safe, e, l⟩ d.safe := S0.self h
  generalize hcm : (⟨d.safe, e, l⟩ : Cm) = c at hc h0
  have eB : bodyS e l = c.B := by rw [← hcm]; rfl
  have eE : endS e l.length (bodyS e l) = c.E := by rw [← hcm]; rfl
  have eb : d.safe = c.b := by rw [← hcm]
  have ee : e = c.e := by rw [← hcm]
  have el : l = c.l := by rw [← hcm]
  rw [commit_form h hw he, eE, eB, ee, el]
  have hB := hc.okB
  have hE := hc.okE
  rcases segm_is (ats 2 c.B) h.u (by rw [eb]; exact hB) with ⟨f, f1, f2, f3⟩ | ⟨f0, Q, f1, f2⟩
  · rw [f1, if_neg (by simp)]
    dsimp only
    have hs1 : Sec c (laid d.safe (ats 2 c.B)) := h0.toSec.laid (okD hB)
    rcases segm_is (d := ⟨laid d.safe (ats 2 c.B), [], f, false⟩) (ats 1 [c.E]) (hs1.up hc f) (by rw [show (⟨laid d.safe (ats 2 c.B), [], f, false⟩ : Dk).safe.length = c.b.length from hs1.len]; exact hE) with ⟨g, g1, g2, g3⟩ | ⟨g0, Q, g1, g2⟩
    · rw [g1, if_neg (by simp)]
      dsimp only
      rcases bring_cases hc (body2 hc h0) g with ⟨s', k, k1, k2, k3⟩ | ⟨k0, t, Q, k1, k2⟩
      · left
        refine ⟨s', k, k1, k2, fun hd => ?_⟩
        have := f2 hd
        have g2 := g2 (by dsimp only; omega)
        dsimp only at g2
        rw [k3 (by omega), g2, this]
      · right
        refine ⟨?_, t, Q, k1, fun fates x => ?_⟩
        · rcases Int.lt_or_le d.fuse 0 with hh | hh
          · have := f2 hh
            have g2 := g2 (by dsimp only; omega)
            dsimp only at g2
            omega
          · exact hh
        · obtain ⟨s', h1, h2⟩ := k2 fates x
          exact ⟨s', h1, .inr h2⟩
    · right
      rw [g2, if_pos (by simp)]
      refine ⟨by have g0 : 0 ≤ f := g0; rcases Int.lt_or_le d.fuse 0 with hh | hh; rw [f2 hh] at g0; omega; exact hh, _, Q, rfl, fun fates x => ?_⟩
      obtain ⟨s', h1, h2, h3⟩ := hs1.crash (Q := Q) (fun w hw => hE w (g1 w hw)) hc fates 0 x true
      exact ⟨s', h1, (fall2 hc h0 g1 h2 h3).elim .inl (fun h => .inr (.inl h))⟩
  · right
    rw [f2, if_pos (by simp)]
    refine ⟨f0, _, Q, rfl, fun fates x => ?_⟩
    obtain ⟨s', h1, h2, h3⟩ := h0.toSec.crash (Q := Q) (fun w hw => hB w (f1 w hw)) hc fates 0 x true
    exact ⟨s', h1, .inl (fall1 hc h0 f1 h2 h3)⟩
/-- What isn't committed leaves the disk as it is. -/
theorem commit_else {d : Dk} {e : Int} {l : List Wr} (h : Clean d e) (he : e < 21) (hw : ¬ Wok d l) : commitM d l = (d, 1) ∨ (commitM d l = (d, 0) ∧ l.length = 0) ∨ commitM d l = (d, 10) := by
  have hcur := cur_is h.u h.n.1 h.b ⟨h.q.1, by omega⟩
  unfold commitM
  split
  · exact .inl rfl
  · rename_i h1
    have h1 : okW' d l := Decidable.not_not.1 h1
    rw [hcur, if_neg (by simp)]
    split
    · rename_i h2; exact .inr (.inl ⟨rfl, h2⟩)
    · rename_i h2
      split
      · exact .inr (.inr rfl)
      · rename_i h3
        exact absurd ⟨h1.2.1, fun w hw' => by have := List.all_eq_true.1 h1.2.2 w hw'; simpa using this, h2, by simpa using h3⟩ hw
theorem ended_zero {d : Dk} (e : Int) : endedM d e (List.replicate 256 0) = 0 := by
  unfold endedM
  rw [if_neg]
  intro h
  have := h.1
  rw [show List.replicate 256 (0 : UInt8) = 0 :: List.replicate 255 0 from rfl] at this
  simp [Lib.hasPrefix, List.isPrefixOf] at this
theorem filled_nil : filled [] = List.replicate 256 0 := by decide +kernel
/-- A new disk, formatted. -/
theorem format_clean (n : Nat) (h : 32 ≤ n ∧ n ≤ 95) : ∃ s, formatM (newD n) = (⟨s, [], -1, false⟩, 0) ∧ Clean ⟨s, [], -1, false⟩ 1 ∧ s.length = n := by
  have hu : Up (newD n) := by
    refine ⟨(right_iff _).2 ⟨by simp [newD]; omega, fun s hs => ?_, fun w hw => by cases hw⟩, rfl, rfl⟩
    rw [List.eq_of_mem_replicate hs]; simp
  have hlen : (newD n).safe.length = n := by simp [newD]
  have hall : ∀ x ∈ formL (n / 4), x.length = 256 := fun x hx => by
    rcases List.mem_or_eq_of_mem_set hx with hx | rfl
    · rw [List.eq_of_mem_replicate hx, filled_nil]; simp
    · exact (begin_is (by omega) (by omega)).2.2
  have hP : ∀ w ∈ ats 0 (formL (n / 4)), okW (newD n).safe.length w = true := fun w hw => by
    obtain ⟨i, h1, h2, h3⟩ := ats_mem _ _ w hw
    have : (formL (n / 4)).length = n / 4 := by simp [formL]
    exact (okW_iff _ _).2 ⟨by omega, by rw [hlen]; omega, by rw [h3]; exact hall _ (getD_mem h1)⟩
  unfold formatM
  rw [if_neg (by rw [hu.1]; simp), hlen]
  rw [show putFl (newD n) 0 (formL (n / 4)) = segm (newD n) (ats 0 (formL (n / 4))) from putFl_is _ 0 _ (by simp [formL]; omega)]
  rcases segm_is _ hu hP with ⟨f, f1, f2, f3⟩ | ⟨f0, _⟩
  · have hf := f2 (by show (-1 : Int) < 0; omega)
    have hf : f = -1 := hf
    subst hf
    have la := fun j => laid_ats (newD n).safe 0 (formL (n / 4)) (by rw [hlen]; simp [formL]; omega) j
    have hfl : (formL (n / 4)).length = n / 4 := by simp [formL]
    refine ⟨_, f1, ⟨crash_up (by rw [laid_len, hlen]; omega) (laid_all ((right_iff _).1 hu.1).2.1 (okD hP)), by dsimp only; rw [laid_len, hlen]; omega, ?_, by omega, ?_⟩, by rw [laid_len, hlen]⟩
    · dsimp only
      rw [la, if_pos (by rw [hfl]; omega)]
      unfold formL
      rw [List.getD_eq_getElem?_getD, List.getElem?_set_self (by simp; omega)]
      rfl
    · dsimp only
      rw [la, if_pos (by rw [hfl]; omega)]
      unfold formL
      rw [List.getD_eq_getElem?_getD, List.getElem?_set_ne (by omega), List.getElem?_replicate, if_pos (by omega), filled_nil]
      exact ended_zero 1
  · exact absurd f0 (by show ¬ (0 : Int) ≤ -1; omega)
/-- A disk that is ready. -/
theorem ready_clean (n : Nat) (l : List Wr) : ∃ s e, readyM n l = (⟨s, [], -1, false⟩, true) ∧ Clean ⟨s, [], -1, false⟩ e ∧ e < 3 ∧ s.length = 32 + n % 64 := by
  obtain ⟨s, h1, h2, h3⟩ := format_clean (32 + n % 64) (by omega)
  unfold readyM
  rw [h1, if_neg (by simp)]
  dsimp only
  by_cases hw : Wok ⟨s, [], -1, false⟩ l
  · rcases commit_cases h2 hw (by omega) with ⟨t, g, g1, g2, g3⟩ | ⟨g0, _⟩
    · have := g3 (by dsimp only; omega)
      dsimp only at this
      subst this
      rw [g1]
      exact ⟨t, 2, by simp, clean2 (h2.ok hw (by omega)) g2 (-1), by omega, g2.len.trans h3⟩
    · exact absurd g0 (by dsimp only; omega)
  · rcases commit_else h2 (by omega) hw with g | ⟨g, _⟩ | g <;> rw [g] <;> exact ⟨s, 1, by simp, h2, by omega, h3⟩
/-- A crash of a disk with nothing loose. -/
theorem crash_lo {d : Dk} (h : Up d) (fates : List UInt8) (g : Int) : crashM d fates g = (⟨d.safe, [], g, false⟩, 0) := by
  obtain ⟨s, h1, h2, h3, h4⟩ := crash_is h.1 fates g
  rw [h1]
  have : s = d.safe := ext_getD h2 fun i hi => (h4 i).elim id fun ⟨w, hw, _⟩ => by rw [h.2.2] at hw; cases hw
  rw [this]
/-- Homes. -/
def homes (d : Dk) : List (List UInt8) := (List.range (d.safe.length - d.safe.length / 4)).map fun i => got d (((d.safe.length / 4 : Nat) : Int) + (i : Nat))
theorem homes_is {d : Dk} (h : d.loose = []) : homes d = (List.range (d.safe.length - lg d)).map fun i => d.safe.getD (lg d + i) [] := by
  unfold homes
  refine List.map_congr_left fun i _ => ?_
  rw [got_lo h]
  exact congrArg (fun k => d.safe.getD k []) (by unfold lg; omega)
theorem homes_at {d : Dk} (h : d.loose = []) (i : Nat) (hi : i < d.safe.length - lg d) : (homes d).getD i [] = d.safe.getD (lg d + i) [] := by
  rw [homes_is h, List.getD_eq_getElem?_getD, List.getElem?_map, List.getElem?_range hi]
  rfl
theorem homes_len (d : Dk) : (homes d).length = d.safe.length - lg d := by simp [homes, lg]
theorem homes_ext {d d' : Dk} (h : d.loose = []) (h' : d'.loose = []) (hl : d.safe.length = d'.safe.length) (hh : ∀ j, lg d ≤ j → d.safe.getD j [] = d'.safe.getD j []) : homes d = homes d' := by
  refine ext_getD (by rw [homes_len, homes_len, hl]; unfold lg; rw [hl]) fun i hi => ?_
  rw [homes_len] at hi
  have e : lg d = lg d' := by unfold lg; rw [hl]
  rw [homes_at h i hi, homes_at h' i (by rw [← hl, ← e]; exact hi), hh _ (by omega), e]
end Go.Proofs.YtnmaaijeamlplaaDoor.Ev
namespace Go.Proofs.YtnmaaijeamlplaaDoor.Ev
open Go.RowKit
open Go.Proofs.YtnmaaijeamlplaaDoor.Mem
set_option linter.unusedVariables false
set_option linter.unusedSimpArgs false
set_option maxRecDepth 100000
theorem bring_small (d : Dk) (e : Int) (l : List Wr) (h : Small d) : Small (bringM d e l).1 ∧ (bringM d e l).1.loose.length ≤ d.loose.length + l.length + 1 := by
  obtain ⟨s1, s2⟩ := putW_small ((d.safe.length / 4 : Nat) : Int) l d h
  unfold bringM
  split
  · exact ⟨s1, by omega⟩
  · obtain ⟨t1, t2⟩ := flush_small s1
    split
    · exact ⟨t1, by omega⟩
    · obtain ⟨u1, u2⟩ := putFl_small (flush (putW ((d.safe.length / 4 : Nat) : Int) d l).1).1 0 [begin_ (e + 1)] t1
      simp only [List.length_cons, List.length_nil] at u2
      exact ⟨u1, by omega⟩
theorem commit_small (d : Dk) (l : List Wr) (h : Small d) : Small (commitM d l).1 ∧ (commitM d l).1.loose.length ≤ d.loose.length + 3 * d.safe.length + 10 := by
  unfold commitM
  split
  · exact ⟨h, by dsimp only; omega⟩
  · split
    · exact ⟨h, by dsimp only; omega⟩
    · split
      · exact ⟨h, by dsimp only; omega⟩
      · split
        · exact ⟨h, by dsimp only; omega⟩
        · rename_i hf
          have hf : fitsB d l.length = true := by simpa using hf
          simp only [fitsB, Bool.and_eq_true, decide_eq_true_eq] at hf
          have hb := bodyS_len (current d).1 l
          obtain ⟨s1, s2⟩ := putFl_small d 2 (bodyS (current d).1 l) h
          split
          · exact ⟨s1, by omega⟩
          · obtain ⟨t1, t2⟩ := putFl_small (putFl d 2 (bodyS (current d).1 l)).1 1 [endS (current d).1 l.length (bodyS (current d).1 l)] s1
            simp only [List.length_cons, List.length_nil] at t2
            split
            · exact ⟨t1, by omega⟩
            · obtain ⟨u1, u2⟩ := bring_small (putFl (putFl d 2 (bodyS (current d).1 l)).1 1 [endS (current d).1 l.length (bodyS (current d).1 l)]).1 (current d).1 l t1
              exact ⟨u1, by omega⟩
theorem recover_small (d : Dk) (h : Small d) : Small (recoverM d).1 ∧ (recoverM d).1.loose.length ≤ d.loose.length + d.safe.length + 1 := by
  unfold recoverM
  split
  · exact ⟨h, by dsimp only; omega⟩
  · split
    · exact ⟨h, by dsimp only; omega⟩
    · split
      · exact ⟨h, by dsimp only; omega⟩
      · rename_i h0
        split
        · exact ⟨h, by dsimp only; omega⟩
        · rcases recN_fits (d := d) with h1 | ⟨h1, _⟩
          · exact absurd h1 h0
          · simp only [fitsB, Bool.and_eq_true, decide_eq_true_eq] at h1
            obtain ⟨u1, u2⟩ := bring_small d (current d).1 (recL d) h
            have : (recL d).length = recN d := by simp [recL]
            exact ⟨u1, by omega⟩
/-- Behind a commit and a crash a recovery leaves a clean disk. -/
theorem again_math {s : List (List UInt8)} {e f : Int} (h : Clean ⟨s, [], f, false⟩ e) (he : e < 20) (l : List Wr) (fates : List UInt8) :
    ∃ s' y e', crashM (commitM ⟨s, [], f, false⟩ l).1 fates (-1) = (⟨s', [], -1, false⟩, 0) ∧ s'.length = s.length ∧ recoverM ⟨s', [], -1, false⟩ = (⟨y, [], -1, false⟩, 0) ∧ Clean ⟨y, [], -1, false⟩ e' ∧ e' ≤ e + 1 ∧ y.length = s.length := by
  by_cases hw : Wok ⟨s, [], f, false⟩ l
  · have hc := h.ok hw (by omega)
    have key : ∀ s', St3 ⟨s, e, l⟩ s' → ∃ y e', s'.length = s.length ∧ recoverM ⟨s', [], -1, false⟩ = (⟨y, [], -1, false⟩, 0) ∧ Clean ⟨y, [], -1, false⟩ e' ∧ e' ≤ e + 1 ∧ y.length = s.length := fun s' hs => by
      rcases hs with hs | hs | hs
      · exact ⟨s', e, hs.len, recover_clean (clean0 hc hs (-1)), clean0 hc hs (-1), by omega, hs.len⟩
      · rcases bring_cases hc hs (-1) with ⟨y, g, g1, g2, g3⟩ | ⟨g0, _⟩
        · have := g3 (by omega)
          subst this
          refine ⟨y, e + 1, hs.len, ?_, clean2 hc g2 (-1), by omega, g2.len⟩
          rw [rise_of hc hw.1 hs (-1)]
          exact g1
        · omega
      · exact ⟨s', e + 1, hs.len, recover_clean (clean2 hc hs (-1)), clean2 hc hs (-1), by omega, hs.len⟩
    rcases commit_cases h hw (by omega) with ⟨t, g, g1, g2, _⟩ | ⟨_, t, Q, g1, g2⟩
    · rw [g1, crash_lo ((clean2 hc g2 g).u)]
      obtain ⟨y, e', k⟩ := key t (.inr (.inr g2))
      exact ⟨t, y, e', rfl, k⟩
    · rw [g1]
      obtain ⟨s', h1, h2⟩ := g2 fates (-1)
      obtain ⟨y, e', k⟩ := key s' h2
      exact ⟨s', y, e', h1, k⟩
  · have hx : (commitM ⟨s, [], f, false⟩ l).1 = ⟨s, [], f, false⟩ := by
      rcases commit_else h (by omega) hw with g | ⟨g, _⟩ | g <;> rw [g]
    rw [hx, crash_lo h.u]
    have := h.fuse (-1)
    exact ⟨s, s, e, rfl, rfl, recover_clean this, this, by omega, rfl⟩
/-- What is committed whole. -/
theorem commit_whole {s : List (List UInt8)} {e : Int} (h : Clean ⟨s, [], -1, false⟩ e) (he : e < 20) {l : List Wr} (hw : Wok ⟨s, [], -1, false⟩ l) :
    ∃ t, commitM ⟨s, [], -1, false⟩ l = (⟨t, [], -1, false⟩, 0) ∧ Clean ⟨t, [], -1, false⟩ (e + 1) ∧ t.length = s.length ∧ ∀ i, i < s.length - s.length / 4 →
      ((∃ w ∈ l, w.at_ = i ∧ (homes ⟨t, [], -1, false⟩).getD i [] = w.data) ∨ ((∀ w ∈ l, w.at_ ≠ i) ∧ (homes ⟨t, [], -1, false⟩).getD i [] = (homes ⟨s, [], -1, false⟩).getD i [])) := by
  have hc := h.ok hw (by omega)
  rcases commit_cases h hw (by omega) with ⟨t, g, g1, g2, g3⟩ | ⟨g0, _⟩
  · have := g3 (by dsimp only; omega)
    dsimp only at this
    subst this
    have hl : t.length = s.length := g2.len
    refine ⟨t, g1, clean2 hc g2 (-1), hl, fun i hi => ?_⟩
    have e1 : (homes ⟨t, [], -1, false⟩).getD i [] = t.getD (s.length / 4 + i) [] := by
      rw [homes_at rfl i (by unfold lg; dsimp only; omega)]
      unfold lg
      dsimp only
      rw [hl]
    have e2 : (homes ⟨s, [], -1, false⟩).getD i [] = s.getD (s.length / 4 + i) [] := homes_at rfl i (by unfold lg; dsimp only; omega)
    have e3 := g2.h (s.length / 4 + i) (by unfold Cm.n; dsimp only; omega)
    rw [e1, e2, e3]
    rcases hc.home (s := s) rfl (s.length / 4 + i) with ⟨w, hw', k1, _, k2⟩ | ⟨k0, _, k2⟩
    · left
      obtain ⟨x, hx, rfl⟩ := offs_mem hw'
      have k1 : ((s.length / 4 : Nat) : Int) + x.at_ = ((s.length / 4 + i : Nat) : Int) := k1
      exact ⟨x, hx, by omega, k2⟩
    · right
      refine ⟨fun x hx e => k0 ⟨((s.length / 4 : Nat) : Int) + x.at_, x.data⟩ (List.mem_map.2 ⟨x, hx, rfl⟩) (by dsimp only; omega), k2⟩
  · exact absurd g0 (by dsimp only; omega)
end Go.Proofs.YtnmaaijeamlplaaDoor.Ev
namespace Go.Proofs.YtnmaaijeamlplaaDoor.Ev
open Go.RowKit
open Go.Proofs.YtnmaaijeamlplaaDoor.Mem
set_option linter.unusedVariables false
set_option linter.unusedSimpArgs false
set_option maxRecDepth 100000
theorem riseF_clean {s : List (List UInt8)} {e : Int} (h : Clean ⟨s, [], -1, false⟩ e) : ∀ fs : List Fall, riseF ⟨s, [], -1, false⟩ fs = (⟨s, [], -1, false⟩, true)
  | [] => by unfold riseF; rw [recover_clean h]; rfl
  | f :: fs => by
    have hf := h.fuse f.fuse
    dsimp only at hf
    unfold riseF
    dsimp only
    rw [recover_clean hf, if_neg (by simp), crash_lo hf.u]
    exact riseF_clean h fs
/-- What stands between the falls of one commit's recoveries. -/
def Mid (c : Cm) (d : Dk) : Prop := ∃ s, d = ⟨s, [], -1, false⟩ ∧ ((∃ e, Clean ⟨s, [], -1, false⟩ e) ∨ (c.Ok ∧ riseL (lim ⟨c.b, [], 0, false⟩) (-1) c.l = true ∧ S1 c s))
theorem Mid.of3 {c : Cm} (hc : c.Ok) (hr : riseL (lim ⟨c.b, [], 0, false⟩) (-1) c.l = true) {s : List (List UInt8)} (h : St3 c s) : Mid c ⟨s, [], -1, false⟩ := by
  rcases h with h | h | h
  · exact ⟨s, rfl, .inl ⟨_, clean0 hc h (-1)⟩⟩
  · exact ⟨s, rfl, .inr ⟨hc, hr, h⟩⟩
  · exact ⟨s, rfl, .inl ⟨_, clean2 hc h (-1)⟩⟩
theorem Mid.len {c : Cm} {d : Dk} (h : Mid c d) : d.safe.length ≤ 95 := by
  obtain ⟨s, rfl, h | ⟨hc, _, h⟩⟩ := h
  · obtain ⟨e, h⟩ := h
    exact h.n.2
  · have := hc.len
    have := h.len
    dsimp only
    omega
theorem Mid.step {c : Cm} {d : Dk} (h : Mid c d) (f : Fall) : ((recoverM { d with fuse := f.fuse }).2 = 0 ∨ (recoverM { d with fuse := f.fuse }).2 = 11) ∧ Mid c (crashM (recoverM { d with fuse := f.fuse }).1 f.fates (-1)).1 := by
  obtain ⟨s, rfl, ⟨e, h⟩ | ⟨hc, hr, h⟩⟩ := h
  · have hf := h.fuse f.fuse
    dsimp only at hf ⊢
    rw [recover_clean hf, crash_lo hf.u]
    exact ⟨.inl rfl, s, rfl, .inl ⟨e, h⟩⟩
  · dsimp only
    rw [rise_of hc hr h]
    rcases bring_cases hc h f.fuse with ⟨y, g, g1, g2, g3⟩ | ⟨g0, t, Q, g1, g2⟩
    · rw [g1, crash_lo (clean2 hc g2 g).u]
      exact ⟨.inl rfl, y, rfl, .inl ⟨_, clean2 hc g2 (-1)⟩⟩
    · rw [g1]
      obtain ⟨s', h1, h2⟩ := g2 f.fates (-1)
      rw [h1]
      exact ⟨.inr rfl, Mid.of3 hc hr (h2.elim (fun h => .inr (.inl h)) (fun h => .inr (.inr h)))⟩
theorem riseF_st {c : Cm} (hc : c.Ok) (hr : riseL (lim ⟨c.b, [], 0, false⟩) (-1) c.l = true) : ∀ (fs : List Fall) (s : List (List UInt8)), St3 c s → ∃ y, riseF ⟨s, [], -1, false⟩ fs = (⟨y, [], -1, false⟩, true) ∧ (S0 c y ∨ S2 c y)
  | fs, s, .inl h => ⟨s, riseF_clean (clean0 hc h (-1)) fs, .inl h⟩
  | fs, s, .inr (.inr h) => ⟨s, riseF_clean (clean2 hc h (-1)) fs, .inr h⟩
  | [], s, .inr (.inl h) => by
    unfold riseF
    rw [rise_of hc hr h]
    rcases bring_cases hc h (-1) with ⟨y, g, g1, g2, g3⟩ | ⟨g0, _⟩
    · have := g3 (by omega)
      subst this
      rw [g1]
      exact ⟨y, rfl, .inr g2⟩
    · omega
  | f :: fs, s, .inr (.inl h) => by
    unfold riseF
    dsimp only
    rw [rise_of hc hr h]
    rcases bring_cases hc h f.fuse with ⟨y, g, g1, g2, g3⟩ | ⟨g0, t, Q, g1, g2⟩
    · rw [g1, if_neg (by simp), crash_lo (clean2 hc g2 g).u]
      exact riseF_st hc hr fs y (.inr (.inr g2))
    · rw [g1, if_neg (by simp)]
      obtain ⟨s', h1, h2⟩ := g2 f.fates (-1)
      rw [h1]
      exact riseF_st hc hr fs s' (h2.elim (fun h => .inr (.inl h)) (fun h => .inr (.inr h)))
/-- Home behind what was brought home is what was written onto it. -/
theorem homes_S2 {c : Cm} (hc : c.Ok) {y : List (List UInt8)} (h : S2 c y) (f g : Int) : homes ⟨y, [], f, false⟩ = laid (homes ⟨c.b, [], g, false⟩) c.l := by
  have hl := h.len
  have hat : ∀ x ∈ c.l, 0 ≤ x.at_ ∧ x.at_ < (homes ⟨c.b, [], g, false⟩).length := fun x hx => by
    have := hc.at_ x hx
    unfold Cm.n at this
    rw [homes_len]
    unfold lg
    dsimp only
    omega
  refine ext_getD (by rw [laid_len, homes_len, homes_len]; unfold lg; dsimp only; rw [hl]) fun i hi => ?_
  rw [homes_len] at hi
  unfold lg at hi
  dsimp only at hi
  have e1 : (homes ⟨y, [], f, false⟩).getD i [] = y.getD (c.b.length / 4 + i) [] := by
    rw [homes_at rfl i (by unfold lg; dsimp only; omega)]
    unfold lg
    dsimp only
    rw [hl]
  have e2 : (homes ⟨c.b, [], g, false⟩).getD i [] = c.b.getD (c.b.length / 4 + i) [] := homes_at rfl i (by unfold lg; dsimp only; omega)
  have e3 := h.h (c.b.length / 4 + i) (by unfold Cm.n; omega)
  rw [e1, e3]
  rcases hc.home (s := c.b) rfl (c.b.length / 4 + i) with ⟨w, hw', k1, _, k2⟩ | ⟨k0, _, k2⟩
  · obtain ⟨x, hx, rfl⟩ := offs_mem hw'
    have k1 : ((c.b.length / 4 : Nat) : Int) + x.at_ = ((c.b.length / 4 + i : Nat) : Int) := k1
    rw [k2]
    have := laid_at c.l (homes ⟨c.b, [], g, false⟩) x hx hat (fun z hz e => by rw [hc.one z hz x hx e])
    rw [show x.at_.toNat = i by omega] at this
    exact this.symm
  · rw [k2, laid_get c.l _ i (fun x hx => (hat x hx).1) (fun x hx e => k0 ⟨((c.b.length / 4 : Nat) : Int) + x.at_, x.data⟩ (List.mem_map.2 ⟨x, hx, rfl⟩) (by dsimp only; omega)), e2]
theorem homes_S0 {c : Cm} {y : List (List UInt8)} (h : S0 c y) (f g : Int) : homes ⟨y, [], f, false⟩ = homes ⟨c.b, [], g, false⟩ :=
  homes_ext rfl rfl h.len fun j hj => h.h j (by unfold lg at hj; unfold Cm.n; have := h.len; dsimp only at hj; omega)
/-- What a commit, a crash and recoveries come to. -/
structure Fell (s : List (List UInt8)) (f : Int) (l : List Wr) (fates : List UInt8) (fs : List Fall) (k : Int) (s' y : List (List UInt8)) : Prop where
  kk : k = 0 ∨ k = 11
  cm : (commitM ⟨s, [], f, false⟩ l).2 = k
  cr : crashM (commitM ⟨s, [], f, false⟩ l).1 fates (-1) = (⟨s', [], -1, false⟩, 0)
  mid : ∃ c, Mid c ⟨s', [], -1, false⟩
  ri : riseF ⟨s', [], -1, false⟩ fs = (⟨y, [], -1, false⟩, true)
  len : y.length = s.length
  cl : ∃ e, Clean ⟨y, [], -1, false⟩ e
  at_ : ∀ w ∈ l, 0 ≤ w.at_ ∧ w.at_ < ((s.length - s.length / 4 : Nat) : Int)
  h : homes ⟨y, [], -1, false⟩ = laid (homes ⟨s, [], -1, false⟩) l ∨ (k = 11 ∧ homes ⟨y, [], -1, false⟩ = homes ⟨s, [], -1, false⟩)
theorem whole_math {s : List (List UInt8)} {e f : Int} (h : Clean ⟨s, [], f, false⟩ e) (he : e < 20) (l : List Wr) (fates : List UInt8) (fs : List Fall) :
    (∃ k, (k = 1 ∨ k = 10) ∧ commitM ⟨s, [], f, false⟩ l = (⟨s, [], f, false⟩, k)) ∨ ∃ k s' y, Fell s f l fates fs k s' y := by
  by_cases hw : Wok ⟨s, [], f, false⟩ l
  · right
    have hc := h.ok hw (by omega)
    have hat : ∀ w ∈ l, 0 ≤ w.at_ ∧ w.at_ < ((s.length - s.length / 4 : Nat) : Int) := fun w hw' => ⟨(hw.at w hw').1, (hw.at w hw').2⟩
    rcases commit_cases h hw (by omega) with ⟨t, g, g1, g2, _⟩ | ⟨_, t, Q, g1, g2⟩
    · refine ⟨0, t, t, .inl rfl, by rw [g1], by rw [g1, crash_lo ((clean2 hc g2 g).u)], ⟨⟨s, e, l⟩, Mid.of3 hc hw.1 (.inr (.inr g2))⟩, riseF_clean (clean2 hc g2 (-1)) fs, g2.len, ⟨_, clean2 hc g2 (-1)⟩, hat, .inl (homes_S2 hc g2 (-1) (-1))⟩
    · obtain ⟨s', h1, h2⟩ := g2 fates (-1)
      obtain ⟨y, k1, k2⟩ := riseF_st hc hw.1 fs s' h2
      refine ⟨11, s', y, .inr rfl, by rw [g1], by rw [g1]; exact h1, ⟨⟨s, e, l⟩, Mid.of3 hc hw.1 h2⟩, k1, k2.elim (fun h => h.len) (fun h => h.len), k2.elim (fun h => ⟨_, clean0 hc h (-1)⟩) (fun h => ⟨_, clean2 hc h (-1)⟩), hat, ?_⟩
      rcases k2 with k2 | k2
      · exact .inr ⟨rfl, homes_S0 k2 (-1) (-1)⟩
      · exact .inl (homes_S2 hc k2 (-1) (-1))
  · have hm := h.fuse (-1)
    dsimp only at hm
    rcases commit_else h (by omega) hw with g | ⟨g, h0⟩ | g
    · exact .inl ⟨1, .inl rfl, g⟩
    · obtain rfl : l = [] := List.eq_nil_of_length_eq_zero h0
      exact .inr ⟨0, s, s, .inl rfl, by rw [g], by rw [g, crash_lo h.u], ⟨⟨s, e, []⟩, s, rfl, .inl ⟨e, hm⟩⟩, riseF_clean hm fs, rfl, ⟨e, hm⟩, fun w hw => (by cases hw), .inl rfl⟩
    · exact .inl ⟨10, .inr rfl, g⟩
end Go.Proofs.YtnmaaijeamlplaaDoor.Ev
