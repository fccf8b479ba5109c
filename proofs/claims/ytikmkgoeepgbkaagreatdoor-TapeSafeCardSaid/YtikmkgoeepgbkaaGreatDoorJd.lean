/- Octal digits, and bytes as signs. -/
import Derived.Test.YtikmkgoeepgbkaaGreatDoorJa
set_option linter.all false
namespace Go.Proofs.YtikmkgoeepgbkaaGreatDoor.Ev
open Go.RowKit
open Go.Proofs.YtikmkgoeepgbkaaGreatDoor.Mem
set_option linter.unusedVariables false
set_option linter.unusedSimpArgs false
set_option maxRecDepth 100000
theorem dv8 : (∀ a : Nat, (a : Int).tmod 8 = ((a % 8 : Nat) : Int)) ∧ (∀ a : Nat, (a : Int).tdiv 8 = ((a / 8 : Nat) : Int)) ∧ (∀ a : Nat, (a : Int).tmod 2 = ((a % 2 : Nat) : Int)) ∧ (∀ a : Nat, (a : Int).tdiv 2 = ((a / 2 : Nat) : Int)) := ⟨fun a => rfl, fun a => rfl, fun a => rfl, fun a => rfl⟩
theorem gd {p q : Prop} (hq : q) (h : p ↔ q := by simp (config := { maxSteps := 10000000 }) (disch := omega) only [dv8, fxM, cSd, wrc, eRd, eEd, eMd, eBd, eEE, rDs, eok, true_implies, eo5, ev5, Nat.mul_one, Nat.zero_mul, Nat.one_mul, Nat.add_zero, lenl, bne_self_eq_false, Int.reduceLT, Int.reduceLE, Int.reduceEq, Int.reduceNe, Int.reduceAdd, Int.reduceSub, Int.reduceMul, Int.reduceNeg, ebr, wr64, sdl, ler, true_or, or_true, rng, List.length_map, List.length_range, List.length_append, List.length_replicate, List.length_set, List.length_take, List.length_drop, List.not_mem_nil, false_implies, implies_true, ↓ec, ↓eg, ↓eo, ↓eox, ↓es, ↓et1, em, emR, efz, enl, ebx, ebt, et, ev, List.drop_nil, Option.some.injEq, Option.isSome_none, Int.reduceToNat, List.replicate_zero, Bool.or_self, ez, ef, ebd, et2, Int.toNat_natCast, Option.map_none, Option.map_some, List.all_cons, List.all_nil, Bool.and_self, List.cons_append, List.nil_append, List.append_nil, List.append_assoc, ep, ew, Option.isSome_some, id_eq, Nat.reduceLT, Nat.reduceSub, Bool.false_or, Bool.true_or, Bool.or_true, Bool.true_and, Bool.and_true, reduceCtorEq, Nat.reduceBEq, Bool.true_eq_false, Bool.false_eq_true, List.map_cons, List.map_nil, List.take_succ_cons, List.take_zero, List.drop_succ_cons, List.drop_zero, List.length_cons, List.length_nil, Nat.zero_add, Nat.reduceAdd, Nat.reduceLeDiff, Bool.not_true, Bool.not_false, List.getElem?_cons_succ, List.getElem?_cons_zero, Option.bind_some, ne_eq, not_false_eq_true, ↓eh1, eh, en, List.getD_cons_zero, List.getD_cons_succ, Nat.reduceEqDiff, ↓reduceIte, cond_true, cond_false, Bool.or_false, decide_true, decide_false, true_and, and_true, decide_eq_true_eq, decide_eq_false_iff_not, Bool.not_eq_true', Bool.not_eq_false', not_true_eq_false, Decidable.not_not]; exact Iff.rfl) : p := h.2 hq
/-- The last d octal digits of n. -/
def octD : Nat → Nat → List UInt8
  | 0, _ => []
  | d + 1, n => octD d (n / 8) ++ [UInt8.ofNat (48 + n % 8)]
theorem octD_len : ∀ d n, (octD d n).length = d
  | 0, _ => rfl
  | d + 1, n => by simp [octD, octD_len d]
theorem octD_hd : ∀ d n, octD (d + 1) n = UInt8.ofNat (48 + n / 8 ^ d % 8) :: octD d n
  | 0, n => by simp [octD]
  | d + 1, n => by
    rw [octD, octD_hd d (n / 8), octD]
    rw [Nat.div_div_eq_div_mul, Nat.mul_comm 8, ← Nat.pow_succ]
    rfl
theorem oct_byte (m : Nat) (h : m < 8) : cB (V.n IntKind.u8 (IntKind.u8.wrap (IntKind.i32.wrap (48 + IntKind.i32.wrap (m : Int))))) = UInt8.ofNat (48 + m) := by
  have key : ∀ m : Fin 8, cB (V.n IntKind.u8 (IntKind.u8.wrap (IntKind.i32.wrap (48 + IntKind.i32.wrap ((m.val : Nat) : Int))))) = UInt8.ofNat (48 + m.val) := by decide +kernel
  exact key ⟨m, h⟩
theorem cvB {P : Program} {T T' t : Nat} {l : List UInt8} {K : V → Prop} (h1 : sle P T = some t) (h2 : ik P t = some .u8) (h3 : strT P T' = true) (hK : K (.s l)) : vConv P T T' (.sl 1 UInt8 0 l eB) K := ⟨l, t, ⟨rfl, rfl, h1, h2, h3⟩, hK⟩
theorem set_in {α : Type} (k : Nat) (x y : α) (l : List α) (i : Nat) (h : i = k) : (List.replicate (k + 1) x ++ l).set i y = List.replicate k x ++ y :: l := by
  subst h
  induction i with
  | zero => rfl
  | succ k ih => rw [List.replicate_succ, List.cons_append, List.set_cons_succ, ih]; rfl
theorem octal_ok (n d : Nat) (hd : d ≤ 22) (hn : n < 9223372036854775808) : Spec Tryz.prog LL 109 [.n .i64 (n : Int), .n .i64 (d : Int)] (.tp [.s (octD d n), .b (decide (n / 8 ^ d = 0))]) := by
  refine spec_of (C := ⟨Tryz.prog, LL, EE, []⟩) (rl := [.s (octD d n), .b (decide (n / 8 ^ d = 0))]) (rs := [.tmp 4, .tmp 5]) CCx LLs Tryz.func109 rfl (by kernel_rfl) rfl (by kernel_rfl) (Nat.le_of_ble_eq_true rfl) (fun i => rfl) (fun i => by first | rfl | exact (Bool.or_false _).trans (eSd_men _ _)) rfl (by decide) ?_
  refine gd ?_
  refine br (fun a => ?_) (fun a => ?_)
  · try refine gd ?_
    refine br (fun b => ?_) (fun b => ?_)
    · try refine gd ?_
      refine br (fun c => ?_) (fun c => ?_)
      · exfalso; omega
      · try refine gd ?_
        refine ⟨rfl, ?_⟩
        refine lp_hd [] [] (fun k : Nat => [(0, .n .i64 ((n / 8 ^ k : Nat) : Int)), (6, .ow 19 d), (7, .n .i64 ((d : Int) - 1 - (k : Int)))]) (fun k : Nat => [(19, rB (List.replicate (d - k) 0 ++ octD k n))]) (fun k : Nat => k ≤ d) (fun k : Nat => d - k) (0) id (id) (Nat.zero_le _) (fits_of (gd ?_) (gd ?_) (gd ?_) (gd ?_) (gd ?_)) ?_
        · first | exact True.intro | exact ⟨rfl, rfl⟩ | exact ⟨rfl, rfl, rfl⟩ | rfl | exact rowc (List.map_id _) | trivial
        · (simp [Nat.pow_zero])
        · first | exact True.intro | exact ⟨rfl, rfl⟩ | exact ⟨rfl, rfl, rfl⟩ | rfl | exact rowc (List.map_id _) | trivial
        · (simp [octD])
        · first | exact True.intro | exact ⟨rfl, rfl⟩ | exact ⟨rfl, rfl, rfl⟩ | rfl | exact rowc (List.map_id _) | trivial
        rintro k hk
        have hl : (List.replicate (d - k) (0 : UInt8) ++ octD k n).length = d := by simp [octD_len]; omega
        try refine gd ?_
        refine br (fun e => ?_) (fun e => ?_)
        · have hq : n / 8 ^ k < 9223372036854775808 := Nat.lt_of_le_of_lt (Nat.div_le_self _ _) hn
          try refine gd ?_
          refine ⟨⟨by rw [octD_len]; omega, by rw [octD_len]; omega⟩, ?_⟩
          refine ⟨k + 1, (by omega), (by omega), fits_of (gd ?_) (gd ?_) (gd ?_) (gd ?_) (gd ?_)⟩
          · first | exact True.intro | exact ⟨rfl, rfl⟩ | exact ⟨rfl, rfl, rfl⟩ | rfl | exact rowc (List.map_id _) | trivial
          · (rw [wr64 (by generalize n / 8 ^ k = q at *; omega) (by generalize n / 8 ^ k = q at *; omega), Nat.div_div_eq_div_mul, ← Nat.pow_succ, show (d : Int) - 1 - (k : Int) - 1 = (d : Int) - 1 - ((k + 1 : Nat) : Int) by omega]; exact ⟨rfl, rfl⟩)
          · first | exact True.intro | exact ⟨rfl, rfl⟩ | exact ⟨rfl, rfl, rfl⟩ | rfl | exact rowc (List.map_id _) | trivial
          · exact rowc (by rw [show d - k = (d - (k + 1)) + 1 by omega, set_in _ _ _ _ _ (by omega), oct_byte _ (Nat.mod_lt _ (by omega)), ← octD_hd])
          · first | exact True.intro | exact ⟨rfl, rfl⟩ | exact ⟨rfl, rfl, rfl⟩ | rfl | exact rowc (List.map_id _) | trivial
        · try refine gd ?_
          obtain rfl : k = d := by omega
          rw [if_pos (by rw [octD_len]; omega), Nat.sub_self, List.replicate_zero, List.nil_append]
          refine cvB (t := 5) (by kernel_rfl) (by kernel_rfl) (by kernel_rfl) ?_
          try refine gd ?_
          generalize n / 8 ^ k = q
          exact decide_eq_decide.2 (by omega)
    · exfalso; omega
  · exfalso; omega
end Go.Proofs.YtikmkgoeepgbkaaGreatDoor.Ev
