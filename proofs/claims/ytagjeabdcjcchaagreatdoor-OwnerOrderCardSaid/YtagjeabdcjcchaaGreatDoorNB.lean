/- Octal digits, and bytes as signs. -/
import Derived.Test.YtagjeabdcjcchaaGreatDoorNA
set_option linter.all false
namespace Go.Proofs.YtagjeabdcjcchaaGreatDoor.Ev
open Go.RowKit
open Go.Proofs.YtagjeabdcjcchaaGreatDoor.Mem
set_option linter.unusedVariables false
set_option linter.unusedSimpArgs false
set_option maxRecDepth 100000
theorem dv8 : (∀ a : Nat, (a : Int).tmod 8 = ((a % 8 : Nat) : Int)) ∧ (∀ a : Nat, (a : Int).tdiv 8 = ((a / 8 : Nat) : Int)) ∧ (∀ a : Nat, (a : Int).tmod 2 = ((a % 2 : Nat) : Int)) ∧ (∀ a : Nat, (a : Int).tdiv 2 = ((a / 2 : Nat) : Int)) := ⟨fun a => rfl, fun a => rfl, fun a => rfl, fun a => rfl⟩
theorem gd {p q : Prop} (hq : q) (h : p ↔ q := by simp (config := { maxSteps := 10000000 }) (disch := omega) only [dv8, fxM, cSd, wrc, eRd, eEd, eMd, eBd, eEE, rDs, eok, true_implies, eo5, ev5, Nat.mul_one, Nat.zero_mul, Nat.one_mul, Nat.add_zero, lenl, bne_self_eq_false, Int.reduceLT, Int.reduceLE, Int.reduceEq, Int.reduceNe, Int.reduceAdd, Int.reduceSub, Int.reduceMul, Int.reduceNeg, ebr, wr64, sdl, ler, true_or, or_true, rng, List.length_map, List.length_range, List.length_append, List.length_replicate, List.length_set, List.length_take, List.length_drop, List.not_mem_nil, false_implies, implies_true, ↓ec, ↓eg, ↓eo, ↓eox, ↓es, ↓et1, em, emR, efz, enl, ebx, ebt, et, ev, List.drop_nil, Option.some.injEq, Option.isSome_none, Int.reduceToNat, List.replicate_zero, Bool.or_self, ez, ef, ebd, et2, Int.toNat_natCast, Option.map_none, Option.map_some, List.all_cons, List.all_nil, Bool.and_self, List.cons_append, List.nil_append, List.append_nil, List.append_assoc, ep, ew, Option.isSome_some, id_eq, Nat.reduceLT, Nat.reduceSub, Bool.false_or, Bool.true_or, Bool.or_true, Bool.true_and, Bool.and_true, reduceCtorEq, Nat.reduceBEq, Bool.true_eq_false, Bool.false_eq_true, List.map_cons, List.map_nil, List.take_succ_cons, List.take_zero, List.drop_succ_cons, List.drop_zero, List.length_cons, List.length_nil, Nat.zero_add, Nat.reduceAdd, Nat.reduceLeDiff, Bool.not_true, Bool.not_false, List.getElem?_cons_succ, List.getElem?_cons_zero, Option.bind_some, ne_eq, not_false_eq_true, ↓eh1, eh, en, List.getD_cons_zero, List.getD_cons_succ, Nat.reduceEqDiff, ↓reduceIte, cond_true, cond_false, Bool.or_false, decide_true, decide_false, true_and, and_true, decide_eq_true_eq, decide_eq_false_iff_not, Bool.not_eq_true', Bool.not_eq_false', not_true_eq_false, Decidable.not_not]; exact Iff.rfl) : p := h.2 hq
/-- The last d octal digits of n. -/
def octD : Nat → Nat → List UInt8
  | 0, _ => []
  | d + 1, n => octD d (n / 8) ++ [UInt8.ofNat (48 + n % 8)]
theorem octD_len : ∀ d n, (octD d n).length = d
  | 0, _ => rfl
  | d + 1, n => by simp [octD, octD_len d]
theorem octD_hd : ∀ d n, octD (d + 1) n = UInt8.ofNat (48 + n / 8 ^ d % 8) :: octD d n
  | 0, n => by simp [octD]
  | d + 1, n => by
    rw [octD, octD_hd d (n / 8), octD]
    rw [Nat.div_div_eq_div_mul, Nat.mul_comm 8, ← Nat.pow_succ]
    rfl
theorem oct_byte (m : Nat) (h : m < 8) : cB (V.n IntKind.u8 (IntKind.u8.wrap (IntKind.i32.wrap (48 + IntKind.i32.wrap (m : Int))))) = UInt8.ofNat (48 + m) := by
  have key : ∀ m : Fin 8, cB (V.n IntKind.u8 (IntKind.u8.wrap (IntKind.i32.wrap (48 + IntKind.i32.wrap ((m.val : Nat) : Int))))) = UInt8.ofNat (48 + m.val) := by decide +kernel
  exact key ⟨m, h⟩
theorem cvB {P : Program} {T T' t : Nat} {l : List UInt8} {K : V → Prop} (h1 : sle P T = some t) (h2 : ik P t = some .u8) (h3 : strT P T' = true) (hK : K (.s l)) : vConv P T T' (.sl 1 UInt8 0 l eB) K := ⟨l, t, ⟨rfl, rfl, h1, h2, h3⟩, hK⟩
theorem set_in {α : Type} (k : Nat) (x y : α) (l : List α) (i : Nat) (h : i = k) : (List.replicate (k + 1) x ++ l).set i y = List.replicate k x ++ y :: l := by
  subst h
  induction i with
  | zero => rfl
  | succ k ih => rw [List.replicate_succ, List.cons_append, List.set_cons_succ, ih]; rfl
theorem octal_ok (n d : Nat) (hd : d ≤ 22) (hn : n < 9223372036854775808) : Spec Tryz.prog LL 91 [.n .i64 (n : Int), .n .i64 (d : Int)] (.tp [.s (octD d n), .b (decide (n / 8 ^ d = 0))]) := by
  refine spec_of (C := ⟨Tryz.prog, LL, EE, []⟩) (rl := [.s (octD d n), .b (decide (n / 8 ^ d = 0))]) (rs := [.tmp 4, .tmp 5]) CCx LLs Tryz.func91 rfl (by kernel_rfl) rfl (by kernel_rfl) (Nat.le_of_ble_eq_true rfl) (fun i => rfl) (fun i => by first | rfl | exact (Bool.or_false _).trans (eSd_men _ _)) rfl (by decide) ?_
  refine gd ?_
  refine br (fun a => ?_) (fun a => ?_)
  · try refine gd ?_
    refine br (fun b => ?_) (fun b => ?_)
    · try refine gd ?_
      refine br (fun c => ?_) (fun c => ?_)
      · exfalso; omega
      · try refine gd ?_
        refine ⟨rfl, ?_⟩
        refine lp_hd [] [] (fun k : Nat => [(0, .n .i64 ((n / 8 ^ k : Nat) : Int)), (6, .ow 19 d), (7, .n .i64 ((d : Int) - 1 - (k : Int)))]) (fun k : Nat => [(19, rB (List.replicate (d - k) 0 ++ octD k n))]) (fun k : Nat => k ≤ d) (fun k : Nat => d - k) (0) id (id) (Nat.zero_le _) (fits_of (gd ?_) (gd ?_) (gd ?_) (gd ?_) (gd ?_)) ?_
        · first | exact True.intro | exact ⟨rfl, rfl⟩ | exact ⟨rfl, rfl, rfl⟩ | rfl | exact rowc (List.map_id _) | trivial
        · (simp [Nat.pow_zero])
        · first | exact True.intro | exact ⟨rfl, rfl⟩ | exact ⟨rfl, rfl, rfl⟩ | rfl | exact rowc (List.map_id _) | trivial
        · (simp [octD])
        · first | exact True.intro | exact ⟨rfl, rfl⟩ | exact ⟨rfl, rfl, rfl⟩ | rfl | exact rowc (List.map_id _) | trivial
        rintro k hk
        have hl : (List.replicate (d - k) (0 : UInt8) ++ octD k n).length = d := by simp [octD_len]; omega
        try refine gd ?_
        refine br (fun e => ?_) (fun e => ?_)
        · have hq : n / 8 ^ k < 9223372036854775808 := Nat.lt_of_le_of_lt (Nat.div_le_self _ _) hn
          try refine gd ?_
          refine ⟨⟨by rw [octD_len]; omega, by rw [octD_len]; omega⟩, ?_⟩
          refine ⟨k + 1, (by omega), (by omega), fits_of (gd ?_) (gd ?_) (gd ?_) (gd ?_) (gd ?_)⟩
          · first | exact True.intro | exact ⟨rfl, rfl⟩ | exact ⟨rfl, rfl, rfl⟩ | rfl | exact rowc (List.map_id _) | trivial
          · (rw [wr64 (by generalize n / 8 ^ k = q at *; omega) (by generalize n / 8 ^ k = q at *; omega), Nat.div_div_eq_div_mul, ← Nat.pow_succ, show (d : Int) - 1 - (k : Int) - 1 = (d : Int) - 1 - ((k + 1 : Nat) : Int) by omega]; exact ⟨rfl, rfl⟩)
          · first | exact True.intro | exact ⟨rfl, rfl⟩ | exact ⟨rfl, rfl, rfl⟩ | rfl | exact rowc (List.map_id _) | trivial
          · exact rowc (by rw [show d - k = (d - (k + 1)) + 1 by omega, set_in _ _ _ _ _ (by omega), oct_byte _ (Nat.mod_lt _ (by omega)), ← octD_hd])
          · first | exact True.intro | exact ⟨rfl, rfl⟩ | exact ⟨rfl, rfl, rfl⟩ | rfl | exact rowc (List.map_id _) | trivial
        · try refine gd ?_
          obtain rfl : k = d := by omega
          rw [if_pos (by rw [octD_len]; omega), Nat.sub_self, List.replicate_zero, List.nil_append]
          refine cvB (t := 5) (by kernel_rfl) (by kernel_rfl) (by kernel_rfl) ?_
          try refine gd ?_
          generalize n / 8 ^ k = q
          exact decide_eq_decide.2 (by omega)
    · exfalso; omega
  · exfalso; omega
end Go.Proofs.YtagjeabdcjcchaaGreatDoor.Ev
namespace Go.Proofs.YtagjeabdcjcchaaGreatDoor.Ev
open Go.RowKit
open Go.Proofs.YtagjeabdcjcchaaGreatDoor.Mem
set_option linter.unusedVariables false
set_option linter.unusedSimpArgs false
set_option maxRecDepth 100000
/-! ### Bytes as signs -/
def sgn (n : Nat) : UInt8 := UInt8.ofNat (if n < 10 then 48 + n else 87 + n)
def hexL (s : List UInt8) : List UInt8 := s.flatMap fun b => [sgn (b.toNat / 16), sgn (b.toNat % 16)]
theorem hexL_len (s : List UInt8) : (hexL s).length = 2 * s.length := by
  induction s with
  | nil => rfl
  | cons b s ih => simp [hexL] at ih ⊢; omega
def signs : List UInt8 := [48, 49, 50, 51, 52, 53, 54, 55, 56, 57, 97, 98, 99, 100, 101, 102]
theorem hxr : (∀ s i, ((by' s i : Nat) : Int).fdiv (2 ^ min 4 IntKind.u8.bits) = ((by' s i / 16 : Nat) : Int)) ∧ (∀ s i, IntKind.u8.wrap (((BitVec.ofInt IntKind.u8.bits ((by' s i : Nat) : Int) &&& BitVec.ofInt IntKind.u8.bits 15).toNat : Nat) : Int) = ((by' s i % 16 : Nat) : Int)) ∧
    (∀ s i, by' [48, 49, 50, 51, 52, 53, 54, 55, 56, 57, 97, 98, 99, 100, 101, 102] (by' s i / 16) = (sgn (by' s i / 16)).toNat) ∧ (∀ s i, by' [48, 49, 50, 51, 52, 53, 54, 55, 56, 57, 97, 98, 99, 100, 101, 102] (by' s i % 16) = (sgn (by' s i % 16)).toNat) := by
  have k1 : ∀ m : Fin 256, ((m.val : Nat) : Int).fdiv (2 ^ min 4 IntKind.u8.bits) = ((m.val / 16 : Nat) : Int) := by decide +kernel
  have k2 : ∀ m : Fin 256, IntKind.u8.wrap (((BitVec.ofInt IntKind.u8.bits ((m.val : Nat) : Int) &&& BitVec.ofInt IntKind.u8.bits 15).toNat : Nat) : Int) = ((m.val % 16 : Nat) : Int) := by decide +kernel
  have k3 : ∀ m : Fin 16, by' [48, 49, 50, 51, 52, 53, 54, 55, 56, 57, 97, 98, 99, 100, 101, 102] m.val = (sgn m.val).toNat := by decide +kernel
  exact ⟨fun s i => k1 ⟨_, by_lt s i⟩, fun s i => k2 ⟨_, by_lt s i⟩, fun s i => k3 ⟨by' s i / 16, by have := by_lt s i; omega⟩, fun s i => k3 ⟨by' s i % 16, Nat.mod_lt _ (by omega)⟩⟩
theorem cBd : ∀ c : UInt8, cB (.n .u8 (c.toNat : Int)) = c := fun c => by simp [cB]
theorem gx {p q : Prop} (hq : q) (h : p ↔ q := by simp (config := { maxSteps := 10000000 }) (disch := omega) only [hxr, cBd, dv8, fxM, cSd, wrc, eRd, eEd, eMd, eBd, eEE, rDs, eok, true_implies, eo5, ev5, Nat.mul_one, Nat.zero_mul, Nat.one_mul, Nat.add_zero, lenl, bne_self_eq_false, Int.reduceLT, Int.reduceLE, Int.reduceEq, Int.reduceNe, Int.reduceAdd, Int.reduceSub, Int.reduceMul, Int.reduceNeg, ebr, wr64, sdl, ler, true_or, or_true, rng, List.length_map, List.length_range, List.length_append, List.length_replicate, List.length_set, List.length_take, List.length_drop, List.not_mem_nil, false_implies, implies_true, ↓ec, ↓eg, ↓eo, ↓eox, ↓es, ↓et1, em, emR, efz, enl, ebx, ebt, et, ev, List.drop_nil, Option.some.injEq, Option.isSome_none, Int.reduceToNat, List.replicate_zero, Bool.or_self, ez, ef, ebd, et2, Int.toNat_natCast, Option.map_none, Option.map_some, List.all_cons, List.all_nil, Bool.and_self, List.cons_append, List.nil_append, List.append_nil, List.append_assoc, ep, ew, Option.isSome_some, id_eq, Nat.reduceLT, Nat.reduceSub, Bool.false_or, Bool.true_or, Bool.or_true, Bool.true_and, Bool.and_true, reduceCtorEq, Nat.reduceBEq, Bool.true_eq_false, Bool.false_eq_true, List.map_cons, List.map_nil, List.take_succ_cons, List.take_zero, List.drop_succ_cons, List.drop_zero, List.length_cons, List.length_nil, Nat.zero_add, Nat.reduceAdd, Nat.reduceLeDiff, Bool.not_true, Bool.not_false, List.getElem?_cons_succ, List.getElem?_cons_zero, Option.bind_some, ne_eq, not_false_eq_true, ↓eh1, eh, en, List.getD_cons_zero, List.getD_cons_succ, Nat.reduceEqDiff, ↓reduceIte, cond_true, cond_false, Bool.or_false, decide_true, decide_false, true_and, and_true, decide_eq_true_eq, decide_eq_false_iff_not, Bool.not_eq_true', Bool.not_eq_false', not_true_eq_false, Decidable.not_not]; exact Iff.rfl) : p := h.2 hq
theorem hex_ok (s : List UInt8) (hs : s.length ≤ 1000000) : Spec Tryz.prog LL 92 [.s s] (.s (hexL s)) := by
  refine spec_of (C := ⟨Tryz.prog, LL, EE, []⟩) (rl := [.s (hexL s)]) (rs := [.tmp 2]) CCx LLs Tryz.func92 rfl (by kernel_rfl) rfl (by kernel_rfl) (Nat.le_of_ble_eq_true rfl) (fun i => rfl) (fun i => by first | rfl | exact (Bool.or_false _).trans (eSd_men _ _)) rfl (by decide) ?_
  refine gx ?_
  refine ⟨rfl, ?_⟩
  refine lp_hd [0] [] (fun i : Nat => [(3, .ow 8 (2 * i)), (4, .n .i64 (i : Int))]) (fun i : Nat => [(8, rB (hexL (s.take i)))]) (fun i : Nat => i ≤ s.length) (fun i : Nat => s.length - i) (0) id (fun i => if i = 8 then 27 else i) (Nat.zero_le _) (fits_of (gx ?_) (gx ?_) (gx ?_) (gx ?_) (gx ?_)) ?_
  · first | exact True.intro | exact ⟨rfl, rfl⟩ | exact ⟨rfl, rfl, rfl⟩ | rfl | exact rowc (List.map_id _) | trivial
  · first | exact True.intro | exact ⟨rfl, rfl⟩ | exact ⟨rfl, rfl, rfl⟩ | rfl | exact rowc (List.map_id _) | trivial
  · first | exact True.intro | exact ⟨rfl, rfl⟩ | exact ⟨rfl, rfl, rfl⟩ | rfl | exact rowc (List.map_id _) | trivial
  · exact rowc rfl
  · first | exact True.intro | exact ⟨rfl, rfl⟩ | exact ⟨rfl, rfl, rfl⟩ | rfl | exact rowc (List.map_id _) | trivial
  rintro i hi
  try refine gx ?_
  refine br (fun e => ?_) (fun e => ?_)
  · try refine gx ?_
    have hl := hexL_len (s.take i)
    rw [List.length_take] at hl
    have hb := by_lt s i
    have htk : hexL (s.take (i + 1)) = hexL (s.take i) ++ [sgn (by' s i / 16), sgn (by' s i % 16)] := by
      rw [take_at s i 0 (by omega), hexL, List.flatMap_append]
      rfl
    refine ⟨by omega, .inr ⟨by omega, ⟨by omega, by omega⟩, ?_⟩⟩
    refine ⟨i + 1, (by omega), (by omega), fits_of (gx ?_) (gx ?_) (gx ?_) (gx ?_) (gx ?_)⟩
    · first | exact True.intro | exact ⟨rfl, rfl⟩ | exact ⟨rfl, rfl, rfl⟩ | rfl | exact rowc (List.map_id _) | trivial
    · (rw [hl, show 2 * min i s.length + 2 = 2 * (i + 1) by omega]; exact ⟨rfl, rfl⟩)
    · first | exact True.intro | exact ⟨rfl, rfl⟩ | exact ⟨rfl, rfl, rfl⟩ | rfl | exact rowc (List.map_id _) | trivial
    · exact rowc (by rw [htk])
    · first | exact True.intro | exact ⟨rfl, rfl⟩ | exact ⟨rfl, rfl, rfl⟩ | rfl | exact rowc (List.map_id _) | trivial
  · try refine gx ?_
    rw [List.take_of_length_le (by omega), if_pos (by rw [hexL_len]; omega)]
    refine cvB (t := 5) (by kernel_rfl) (by kernel_rfl) (by kernel_rfl) ?_
    try refine gx ?_
    trivial
/-- What a sign stands for. -/
def hlf (c : UInt8) : Int := if 48 ≤ c.toNat ∧ c.toNat ≤ 57 then (c.toNat : Int) - 48 else if 97 ≤ c.toNat ∧ c.toNat ≤ 102 then (c.toNat : Int) - 87 else -1
theorem half_ok (c : UInt8) : Spec Tryz.prog LL 219 [.n .u8 (c.toNat : Int)] (.n .i64 (hlf c)) := by
  refine spec_of (C := ⟨Tryz.prog, LL, EE, []⟩) (rl := [.n .i64 (hlf c)]) (rs := [.tmp 2]) CCx LLs Tryz.func219 rfl (by kernel_rfl) rfl (by kernel_rfl) (Nat.le_of_ble_eq_true rfl) (fun i => rfl) (fun i => by first | rfl | exact (Bool.or_false _).trans (eSd_men _ _)) rfl (by decide) ?_
  refine gx ?_
  have hc : c.toNat < 256 := c.toNat_lt
  have w8 : ∀ x : Int, 0 ≤ x → x < 256 → IntKind.u8.wrap x = x := fun x h1 h2 => by simp [IntKind.wrap, IntKind.bits, IntKind.signed]; omega
  repeat' (first | exact True.intro | (unfold hlf; rw [w8 _ (by omega) (by omega), wr64 (x := (c.toNat : Int) - 97) (by omega) (by omega), wr64 (by omega) (by omega)]; split; omega; split <;> omega) | (unfold hlf; rw [w8 _ (by omega) (by omega), wr64 (by omega) (by omega)]; split <;> omega) | (unfold hlf; rw [w8 _ (by omega) (by omega)]; split; omega; split <;> omega) | (unfold hlf; split; omega; split <;> omega) | refine br (fun h => ?_) (fun h => ?_) | refine gx ?_)
/-- The bytes whose signs these are. -/
def unhexL : List UInt8 → List UInt8 × Bool
  | [] => ([], true)
  | [_] => ([], false)
  | a :: b :: r => if hlf a < 0 ∨ hlf b < 0 then ([], false) else bif (unhexL r).2 then (UInt8.ofNat (16 * (hlf a).toNat + (hlf b).toNat) :: (unhexL r).1, true) else ([], false)
theorem unhexL_odd : ∀ s : List UInt8, s.length % 2 ≠ 0 → unhexL s = ([], false)
  | [], h => by simp at h
  | [_], _ => rfl
  | a :: b :: r, h => by
    unfold unhexL
    rw [unhexL_odd r (by simp at h; omega)]
    split <;> rfl
theorem unhexL_self : ∀ s : List UInt8, unhexL s = (bif (unhexL s).2 then ((unhexL s).1, true) else ([], false))
  | [] => rfl
  | [_] => rfl
  | a :: b :: r => by
    unfold unhexL
    split
    · rfl
    · cases (unhexL r).2 <;> rfl
theorem hlf_rng (c : UInt8) : -1 ≤ hlf c ∧ hlf c < 16 := by unfold hlf; split; omega; split <;> omega
theorem orr : ∀ (a b : UInt8), 0 ≤ hlf a → 0 ≤ hlf b → IntKind.u8.wrap (IntKind.i64.wrap (((BitVec.ofInt IntKind.i64.bits (IntKind.i64.wrap (hlf a * 2 ^ min 4 IntKind.i64.bits)) ||| BitVec.ofInt IntKind.i64.bits (hlf b)).toNat : Nat) : Int)) = (((UInt8.ofNat (16 * (hlf a).toNat + (hlf b).toNat)).toNat : Nat) : Int) := fun a b ha hb => by
  obtain ⟨x, hx⟩ : ∃ x : Fin 16, hlf a = (x.val : Nat) := ⟨⟨(hlf a).toNat, by have := hlf_rng a; omega⟩, by dsimp only; omega⟩
  obtain ⟨y, hy⟩ : ∃ y : Fin 16, hlf b = (y.val : Nat) := ⟨⟨(hlf b).toNat, by have := hlf_rng b; omega⟩, by dsimp only; omega⟩
  rw [hx, hy]
  have key : ∀ x y : Fin 16, IntKind.u8.wrap (IntKind.i64.wrap (((BitVec.ofInt IntKind.i64.bits (IntKind.i64.wrap (((x.val : Nat) : Int) * 2 ^ min 4 IntKind.i64.bits)) ||| BitVec.ofInt IntKind.i64.bits ((y.val : Nat) : Int)).toNat : Nat) : Int)) = (((UInt8.ofNat (16 * ((x.val : Nat) : Int).toNat + ((y.val : Nat) : Int).toNat)).toNat : Nat) : Int) := by decide +kernel
  exact key x y
theorem unhex_ok (s : List UInt8) (hs : s.length ≤ 2000000) : Spec Tryz.prog LL 216 [.s s] (.tp [.s (unhexL s).1, .b (unhexL s).2]) := by
  refine spec_of (C := ⟨Tryz.prog, LL, EE, []⟩) (rl := [.s (unhexL s).1, .b (unhexL s).2]) (rs := [.tmp 2, .tmp 3]) CCx LLs Tryz.func216 rfl (by kernel_rfl) rfl (by kernel_rfl) (Nat.le_of_ble_eq_true rfl) (fun i => rfl) (fun i => by first | rfl | exact (Bool.or_false _).trans (eSd_men _ _)) rfl (by decide) ?_
  refine gx ?_
  refine br (fun a => ?_) (fun a => ?_)
  · try refine gx ?_
    rw [unhexL_odd s (by omega)]
    exact ⟨rfl, rfl⟩
  · try refine gx ?_
    refine ⟨rfl, ?_⟩
    refine lp_hd [0] [] (fun x : Nat × List UInt8 => [(4, .ow 15 x.2.length), (5, .n .i64 ((2 * x.1 : Nat) : Int))]) (fun x : Nat × List UInt8 => [(15, rB x.2)]) (fun x : Nat × List UInt8 => 2 * x.1 ≤ s.length ∧ x.2.length = x.1 ∧ unhexL s = (bif (unhexL (s.drop (2 * x.1))).2 then (x.2 ++ (unhexL (s.drop (2 * x.1))).1, true) else ([], false))) (fun x : Nat × List UInt8 => s.length - 2 * x.1) ((0, [])) id (fun i => if i = 15 then 44 else i) ⟨by simp, rfl, by dsimp only; rw [Nat.mul_zero, List.drop_zero, List.nil_append]; exact unhexL_self s⟩ (fits_of (gx ?_) (gx ?_) (gx ?_) (gx ?_) (gx ?_)) ?_
    · first | exact True.intro | exact ⟨rfl, rfl⟩ | exact ⟨rfl, rfl, rfl⟩ | rfl | exact rowc (List.map_id _) | trivial
    · first | exact True.intro | exact ⟨rfl, rfl⟩ | exact ⟨rfl, rfl, rfl⟩ | rfl | exact rowc (List.map_id _) | trivial
    · first | exact True.intro | exact ⟨rfl, rfl⟩ | exact ⟨rfl, rfl, rfl⟩ | rfl | exact rowc (List.map_id _) | trivial
    · first | exact True.intro | exact ⟨rfl, rfl⟩ | exact ⟨rfl, rfl, rfl⟩ | rfl | exact rowc (List.map_id _) | trivial
    · first | exact True.intro | exact ⟨rfl, rfl⟩ | exact ⟨rfl, rfl, rfl⟩ | rfl | exact rowc (List.map_id _) | trivial
    rintro ⟨k, acc⟩ ⟨hk, hl, hu⟩
    dsimp only at hk hl hu ⊢
    try refine gx ?_
    refine br (fun e => ?_) (fun e => ?_)
    · have hd : s.drop (2 * k) = s.getD (2 * k) 0 :: s.getD (2 * k + 1) 0 :: s.drop (2 * (k + 1)) := by
        rw [drop_at s (2 * k) 0 (by omega), drop_at s (2 * k + 1) 0 (by omega)]
        rfl
      rw [hd] at hu
      try refine gx ?_
      refine cd (half_ok (s.getD (2 * k) 0)) ?_
      refine gx ?_
      refine cd (half_ok (s.getD (2 * k + 1) 0)) ?_
      refine gx ?_
      generalize s.getD (2 * k) 0 = x at hu hd
      generalize s.getD (2 * k + 1) 0 = y at hu hd
      have no : hlf x < 0 ∨ hlf y < 0 → unhexL s = ([], false) := fun h => by rw [hu, unhexL, if_pos h]; rfl
      refine br (fun p1 => ?_) (fun p1 => ?_)
      · try refine gx ?_
        refine br (fun p2 => ?_) (fun p2 => ?_)
        · try refine gx ?_
          rw [no (.inr p2)]
          exact ⟨rfl, rfl⟩
        · try refine gx ?_
          rw [orr x y (by omega) (by omega)]
          try refine gx ?_
          refine .inr ?_
          have hq : unhexL (x :: y :: s.drop (2 * (k + 1))) = (bif (unhexL (s.drop (2 * (k + 1)))).2 then (UInt8.ofNat (16 * (hlf x).toNat + (hlf y).toNat) :: (unhexL (s.drop (2 * (k + 1)))).1, true) else ([], false)) := by
            rw [unhexL, if_neg (by omega)]
          refine ⟨(k + 1, acc ++ [UInt8.ofNat (16 * (hlf x).toNat + (hlf y).toNat)]), ⟨by dsimp only; omega, by simp [hl], by rw [hu, hq]; dsimp only; cases (unhexL (s.drop (2 * (k + 1)))).2 <;> simp⟩, (by dsimp only; omega), fits_of (gx ?_) (gx ?_) (gx ?_) (gx ?_) (gx ?_)⟩
          · first | exact True.intro | exact ⟨rfl, rfl⟩ | exact ⟨rfl, rfl, rfl⟩ | rfl | exact rowc (List.map_id _) | trivial
          · (rw [show ((2 * k : Nat) : Int) + 2 = ((2 * (k + 1) : Nat) : Int) by omega])
          · first | exact True.intro | exact ⟨rfl, rfl⟩ | exact ⟨rfl, rfl, rfl⟩ | rfl | exact rowc (List.map_id _) | trivial
          · first | exact True.intro | exact ⟨rfl, rfl⟩ | exact ⟨rfl, rfl, rfl⟩ | rfl | exact rowc (List.map_id _) | trivial
          · first | exact True.intro | exact ⟨rfl, rfl⟩ | exact ⟨rfl, rfl, rfl⟩ | rfl | exact rowc (List.map_id _) | trivial
      · try refine gx ?_
        rw [no (by omega)]
        exact ⟨rfl, rfl⟩
    · try refine gx ?_
      refine cvB (t := 5) (by kernel_rfl) (by kernel_rfl) (by kernel_rfl) ?_
      rw [List.drop_eq_nil_of_le (by omega)] at hu
      try refine gx ?_
      rw [hu]
      simp [unhexL]
end Go.Proofs.YtagjeabdcjcchaaGreatDoor.Ev
namespace Go.Proofs.YtagjeabdcjcchaaGreatDoor.Ev
open Go.RowKit
open Go.Proofs.YtagjeabdcjcchaaGreatDoor.Mem
set_option linter.unusedVariables false
set_option linter.unusedSimpArgs false
set_option maxRecDepth 100000
def numM (base zr : Nat) : List UInt8 → Nat → Nat × Int
  | [], n => (n, 0)
  | b :: r, n => if n > (9223372036854775807 - (b.toNat + 256 - zr) % 256) / base then (0, 3) else numM base zr r (n * base + (b.toNat + 256 - zr) % 256)
theorem by_drop {s : List UInt8} {i : Nat} (h : i < s.length) : ∃ b, s.drop i = b :: s.drop (i + 1) ∧ by' s i = b.toNat := by
  refine ⟨s.getD i 0, drop_at s i 0 h, rfl⟩
theorem gf {p q : Prop} (hq : q) (h : p ↔ q := by simp (config := { maxSteps := 10000000 }) (disch := omega) only [dv8, fxM, cSd, wrc, eRd, eEd, eMd, eBd, eEE, rDs, eok, true_implies, eo5, ev5, Nat.mul_one, Nat.zero_mul, Nat.one_mul, Nat.add_zero, lenl, bne_self_eq_false, Int.reduceLT, Int.reduceLE, Int.reduceEq, Int.reduceNe, Int.reduceAdd, Int.reduceSub, Int.reduceMul, Int.reduceNeg, ebr, wr64, sdl, ler, true_or, or_true, rng, List.length_map, List.length_range, List.length_append, List.length_replicate, List.length_set, List.length_take, List.length_drop, List.not_mem_nil, false_implies, implies_true, ↓ec, ↓eg, ↓eo, ↓eox, ↓es, ↓et1, em, emR, efz, enl, ebx, ebt, et, ev, List.drop_nil, Option.some.injEq, Option.isSome_none, Int.reduceToNat, List.replicate_zero, Bool.or_self, ez, ef, ebd, et2, Int.toNat_natCast, Option.map_none, Option.map_some, List.all_cons, List.all_nil, Bool.and_self, List.cons_append, List.nil_append, List.append_nil, List.append_assoc, ep, ew, Option.isSome_some, id_eq, Nat.reduceLT, Nat.reduceSub, Bool.false_or, Bool.true_or, Bool.or_true, Bool.true_and, Bool.and_true, reduceCtorEq, Nat.reduceBEq, Bool.true_eq_false, Bool.false_eq_true, List.map_cons, List.map_nil, List.take_succ_cons, List.take_zero, List.drop_succ_cons, List.drop_zero, List.length_cons, List.length_nil, Nat.zero_add, Nat.reduceAdd, Nat.reduceLeDiff, Bool.not_true, Bool.not_false, List.getElem?_cons_succ, List.getElem?_cons_zero, Option.bind_some, ne_eq, not_false_eq_true, ↓eh1, eh, en, List.getD_cons_zero, List.getD_cons_succ, Nat.reduceEqDiff, ↓reduceIte, cond_true, cond_false, Bool.or_false, decide_true, decide_false, true_and, and_true, decide_eq_true_eq, decide_eq_false_iff_not, Bool.not_eq_true', Bool.not_eq_false', not_true_eq_false, Decidable.not_not]; exact Iff.rfl) : p := h.2 hq
theorem w8z (b zr : Nat) (hb : b < 256) (hz : zr < 256) : IntKind.u8.wrap ((b : Int) - (zr : Int)) = (((b + 256 - zr) % 256 : Nat) : Int) := by
  simp [IntKind.wrap, IntKind.bits, IntKind.signed]; omega
theorem tdN (a b : Nat) : ((a : Int)).tdiv (b : Int) = ((a / b : Nat) : Int) := rfl
theorem num_ok (s : List UInt8) (base zr : Nat) (hb : 2 ≤ base) (hb2 : base ≤ 256) (hz : zr < 256) (hs : s.length ≤ 2000000) : Spec Tryz.prog LL 220 [.s s, .n .i64 (base : Int), .n .u8 (zr : Int)] (.tp [.n .i64 ((numM base zr s 0).1 : Int), .n .i64 (numM base zr s 0).2]) := by
  refine spec_of (C := ⟨Tryz.prog, LL, EE, []⟩) (rl := [.n .i64 ((numM base zr s 0).1 : Int), .n .i64 (numM base zr s 0).2]) (rs := [.tmp 6, .tmp 7]) CCx LLs Tryz.func220 rfl (by kernel_rfl) rfl (by kernel_rfl) (Nat.le_of_ble_eq_true rfl) (fun i => rfl) (fun i => by first | rfl | exact (Bool.or_false _).trans (eSd_men _ _)) rfl (by decide) ?_
  refine gf ?_
  refine lp_hd [0, 1, 2] [] (fun x : Nat × Nat => [(8, .n .i64 (x.2 : Int)), (9, .n .i64 (x.1 : Int))]) (fun x : Nat × Nat => []) (fun x : Nat × Nat => x.1 ≤ s.length ∧ x.2 < 9223372036854775808 ∧ numM base zr s 0 = numM base zr (s.drop x.1) x.2) (fun x : Nat × Nat => s.length - x.1) ((0, 0)) id (id) ⟨Nat.zero_le _, by decide, rfl⟩ (fits_of (gf ?_) (gf ?_) (gf ?_) (gf ?_) (gf ?_)) ?_
  · first | exact True.intro | exact ⟨rfl, rfl⟩ | exact ⟨rfl, rfl, rfl⟩ | rfl | exact rowc (List.map_id _) | trivial
  · first | exact True.intro | exact ⟨rfl, rfl⟩ | exact ⟨rfl, rfl, rfl⟩ | rfl | exact rowc (List.map_id _) | trivial
  · first | exact True.intro | exact ⟨rfl, rfl⟩ | exact ⟨rfl, rfl, rfl⟩ | rfl | exact rowc (List.map_id _) | trivial
  · first | exact True.intro | exact ⟨rfl, rfl⟩ | exact ⟨rfl, rfl, rfl⟩ | rfl | exact rowc (List.map_id _) | trivial
  · first | exact True.intro | exact ⟨rfl, rfl⟩ | exact ⟨rfl, rfl, rfl⟩ | rfl | exact rowc (List.map_id _) | trivial
  rintro ⟨i, n⟩ ⟨hi, hn, hr⟩
  dsimp only at hi hn hr ⊢
  try refine gf ?_
  refine br (fun e => ?_) (fun e => ?_)
  · obtain ⟨b, q1, q2⟩ := by_drop (s := s) (i := i) (by omega)
    have hb' : b.toNat < 256 := b.toNat_lt
    rw [q1, numM] at hr
    rw [← q2] at hr
    try refine gf ?_
    rw [w8z _ zr (by_lt s i) hz]
    have hd : (by' s i + 256 - zr) % 256 < 256 := Nat.mod_lt _ (by omega)
    generalize (by' s i + 256 - zr) % 256 = d at hr hd
    try refine gf ?_
    rw [show (9223372036854775807 : Int) - (d : Int) = ((9223372036854775807 - d : Nat) : Int) by omega, tdN]
    have hq : (9223372036854775807 - d) / base ≤ 9223372036854775807 := Nat.le_trans (Nat.div_le_self _ _) (by omega)
    have hm : n ≤ (9223372036854775807 - d) / base → n * base + d ≤ 9223372036854775807 := fun h1 => by
      have := (Nat.le_div_iff_mul_le (by omega)).1 h1
      omega
    generalize (9223372036854775807 - d) / base = Q at *
    try refine gf ?_
    refine br (fun c => ?_) (fun c => ?_)
    · try refine gf ?_
      rw [hr, if_pos (by omega)]
      exact ⟨rfl, rfl⟩
    · have hm := hm (by omega)
      rw [if_neg (by omega)] at hr
      try refine gf ?_
      rw [show (n : Int) * (base : Int) = ((n * base : Nat) : Int) by rw [Int.natCast_mul]]
      refine ⟨(i + 1, n * base + d), ⟨by dsimp only; omega, by dsimp only; omega, hr⟩, (by dsimp only; omega), fits_of (gf ?_) (gf ?_) (gf ?_) (gf ?_) (gf ?_)⟩
      · first | exact True.intro | exact ⟨rfl, rfl⟩ | exact ⟨rfl, rfl, rfl⟩ | rfl | exact rowc (List.map_id _) | trivial
      · (exact ⟨by rw [Int.natCast_add], rfl⟩)
      · first | exact True.intro | exact ⟨rfl, rfl⟩ | exact ⟨rfl, rfl, rfl⟩ | rfl | exact rowc (List.map_id _) | trivial
      · first | exact True.intro | exact ⟨rfl, rfl⟩ | exact ⟨rfl, rfl, rfl⟩ | rfl | exact rowc (List.map_id _) | trivial
      · first | exact True.intro | exact ⟨rfl, rfl⟩ | exact ⟨rfl, rfl, rfl⟩ | rfl | exact rowc (List.map_id _) | trivial
  · try refine gf ?_
    rw [hr, List.drop_eq_nil_of_le (by omega)]
    exact ⟨rfl, rfl⟩
def blankB (s : List UInt8) : Bool := s.all fun b => decide (b.toNat = 32) || decide (b.toNat = 0)
theorem nothing_ok (s : List UInt8) (hs : s.length ≤ 2000000) : Spec Tryz.prog LL 221 [.s s] (.b (blankB s)) := by
  refine spec_of (C := ⟨Tryz.prog, LL, EE, []⟩) (rl := [.b (blankB s)]) (rs := [.tmp 2]) CCx LLs Tryz.func221 rfl (by kernel_rfl) rfl (by kernel_rfl) (Nat.le_of_ble_eq_true rfl) (fun i => rfl) (fun i => by first | rfl | exact (Bool.or_false _).trans (eSd_men _ _)) rfl (by decide) ?_
  refine gf ?_
  refine lp_hd [0] [] (fun i : Nat => [(3, .n .i64 (i : Int))]) (fun i : Nat => []) (fun i : Nat => i ≤ s.length ∧ blankB s = blankB (s.drop i)) (fun i : Nat => s.length - i) (0) id (id) ⟨Nat.zero_le _, rfl⟩ (fits_of (gf ?_) (gf ?_) (gf ?_) (gf ?_) (gf ?_)) ?_
  · first | exact True.intro | exact ⟨rfl, rfl⟩ | exact ⟨rfl, rfl, rfl⟩ | rfl | exact rowc (List.map_id _) | trivial
  · first | exact True.intro | exact ⟨rfl, rfl⟩ | exact ⟨rfl, rfl, rfl⟩ | rfl | exact rowc (List.map_id _) | trivial
  · first | exact True.intro | exact ⟨rfl, rfl⟩ | exact ⟨rfl, rfl, rfl⟩ | rfl | exact rowc (List.map_id _) | trivial
  · first | exact True.intro | exact ⟨rfl, rfl⟩ | exact ⟨rfl, rfl, rfl⟩ | rfl | exact rowc (List.map_id _) | trivial
  · first | exact True.intro | exact ⟨rfl, rfl⟩ | exact ⟨rfl, rfl, rfl⟩ | rfl | exact rowc (List.map_id _) | trivial
  rintro i ⟨hi, hr⟩
  try refine gf ?_
  refine br (fun e => ?_) (fun e => ?_)
  · obtain ⟨b, q1, q2⟩ := by_drop (s := s) (i := i) (by omega)
    rw [q1] at hr
    have hh : blankB (b :: s.drop (i + 1)) = ((decide (b.toNat = 32) || decide (b.toNat = 0)) && blankB (s.drop (i + 1))) := rfl
    rw [hh, ← q2] at hr
    clear hh q1
    repeat' (first | exact True.intro | (rw [hr]; simp; omega) | (refine ⟨i + 1, ⟨by omega, by rw [hr]; simp; omega⟩, (by omega), fits_of (gf ?_) (gf ?_) (gf ?_) (gf ?_) (gf ?_)⟩ <;> (first | exact True.intro | exact ⟨rfl, rfl⟩ | exact ⟨rfl, rfl, rfl⟩ | rfl | exact rowc (List.map_id _) | trivial); done) | refine br (fun h => ?_) (fun h => ?_) | refine gf ?_)
  · try refine gf ?_
    rw [List.drop_eq_nil_of_le (by omega)] at hr
    rw [hr]
    rfl
/-- The number of a field. -/
def spB : List UInt8 → List UInt8 := List.dropWhile fun b => decide (b.toNat = 32)
def octB (b : UInt8) : Bool := decide (48 ≤ b.toNat) && decide (b.toNat ≤ 55)
def getM (s : List UInt8) : Nat × Int :=
  if s.length > 0 ∧ by' s 0 = 128 then numM 256 0 (s.drop 1) 0 else
  if ¬ (numM 8 48 ((spB s).takeWhile octB) 0).2 = 0 then (0, (numM 8 48 ((spB s).takeWhile octB) 0).2) else
  if (spB s).takeWhile octB = [] ∨ blankB ((spB s).dropWhile octB) = false then (0, 2) else ((numM 8 48 ((spB s).takeWhile octB) 0).1, 0)
/-- How many there are ahead that fit. -/
theorem ahead {f : UInt8 → Bool} {s : List UInt8} {n : Nat} (h1 : n ≤ s.length) (h2 : ∀ i, i < n → f (s.getD i 0) = true) (h3 : n < s.length → f (s.getD n 0) = false) : s.takeWhile f = s.take n ∧ s.dropWhile f = s.drop n := by
  induction n generalizing s with
  | zero =>
    cases s with
    | nil => exact ⟨rfl, rfl⟩
    | cons b s =>
      have h4 : f b = false := by simpa using h3 (by simp)
      simp [List.takeWhile, List.dropWhile, h4]
  | succ n ih =>
    cases s with
    | nil => simp at h1
    | cons b s =>
      have hb : f b = true := by simpa using h2 0 (by omega)
      obtain ⟨k1, k2⟩ := ih (s := s) (by simpa using h1) (fun i hi => by simpa using h2 (i + 1) (by omega)) (fun h => by simpa using h3 (by simpa using h))
      simp [List.takeWhile, List.dropWhile, hb, k1, k2]
theorem spc_at {s : List UInt8} {i : Nat} (h : by' s i = 32) : (fun b : UInt8 => decide (b.toNat = 32)) (s.getD i 0) = true := decide_eq_true h
theorem spc_no {s : List UInt8} {i : Nat} (h : ¬ by' s i = 32) : (fun b : UInt8 => decide (b.toNat = 32)) (s.getD i 0) = false := decide_eq_false h
theorem oct_at {s : List UInt8} {i : Nat} : octB (s.getD i 0) = true ↔ 48 ≤ by' s i ∧ by' s i ≤ 55 := by simp [octB, by']
theorem get_ok (s : List UInt8) (hs : s.length ≤ 1500000) : Spec Tryz.prog LL 218 [.s s] (.tp [.n .i64 ((getM s).1 : Int), .n .i64 (getM s).2]) := by
  refine spec_of (C := ⟨Tryz.prog, LL, EE, [3, 6, 9]⟩) (rl := [.n .i64 ((getM s).1 : Int), .n .i64 (getM s).2]) (rs := [.tmp 2, .tmp 3]) CCx LLs Tryz.func218 rfl (by kernel_rfl) rfl (by kernel_rfl) (Nat.le_of_ble_eq_true rfl) (fun i => rfl) (fun i => by first | rfl | exact (Bool.or_false _).trans (eSd_men _ _)) rfl (by decide) ?_
  refine gf ?_
  refine ct_hd [0] [] (fun x : Unit => []) (fun x : Unit => []) (fun x : Unit => ¬ (s.length > 0 ∧ by' s 0 = 128)) (gf ?_) ?_
  · refine br (fun a => ?_) (fun a => ?_)
    · try refine gf ?_
      refine br (fun b => ?_) (fun b => ?_)
      · try refine gf ?_
        refine cl (num_ok (s.drop 1) 256 0 (by omega) (by omega) (by omega) (by simp; omega)) ?_
        refine gf ?_
        rw [show getM s = numM 256 0 (s.drop 1) 0 from if_pos ⟨by omega, by omega⟩]
        exact ⟨rfl, rfl⟩
      · try refine gf ?_
        refine wk_fit (()) (id) ((by omega)) (fits_of (gf ?_) (gf ?_) (gf ?_) (gf ?_) (gf ?_))
        · first | exact True.intro | exact ⟨rfl, rfl⟩ | exact ⟨rfl, rfl, rfl⟩ | rfl | exact rowc (List.map_id _) | trivial
        · first | exact True.intro | exact ⟨rfl, rfl⟩ | exact ⟨rfl, rfl, rfl⟩ | rfl | exact rowc (List.map_id _) | trivial
        · first | exact True.intro | exact ⟨rfl, rfl⟩ | exact ⟨rfl, rfl, rfl⟩ | rfl | exact rowc (List.map_id _) | trivial
        · first | exact True.intro | exact ⟨rfl, rfl⟩ | exact ⟨rfl, rfl, rfl⟩ | rfl | exact rowc (List.map_id _) | trivial
        · first | exact True.intro | exact ⟨rfl, rfl⟩ | exact ⟨rfl, rfl, rfl⟩ | rfl | exact rowc (List.map_id _) | trivial
    · try refine gf ?_
      refine wk_fit (()) (id) ((by omega)) (fits_of (gf ?_) (gf ?_) (gf ?_) (gf ?_) (gf ?_))
      · first | exact True.intro | exact ⟨rfl, rfl⟩ | exact ⟨rfl, rfl, rfl⟩ | rfl | exact rowc (List.map_id _) | trivial
      · first | exact True.intro | exact ⟨rfl, rfl⟩ | exact ⟨rfl, rfl, rfl⟩ | rfl | exact rowc (List.map_id _) | trivial
      · first | exact True.intro | exact ⟨rfl, rfl⟩ | exact ⟨rfl, rfl, rfl⟩ | rfl | exact rowc (List.map_id _) | trivial
      · first | exact True.intro | exact ⟨rfl, rfl⟩ | exact ⟨rfl, rfl, rfl⟩ | rfl | exact rowc (List.map_id _) | trivial
      · first | exact True.intro | exact ⟨rfl, rfl⟩ | exact ⟨rfl, rfl, rfl⟩ | rfl | exact rowc (List.map_id _) | trivial
  · rintro _ h0
    try refine gf ?_
    refine ct_hd [0] [] (fun n : Nat => [(4, .n .i64 (n : Int))]) (fun n : Nat => []) (fun n : Nat => n ≤ s.length ∧ (∀ i, i < n → by' s i = 32) ∧ (n < s.length → ¬ by' s n = 32)) (gf ?_) ?_
    · refine lp_hd [0] [] (fun i : Nat => [(4, .n .i64 (i : Int))]) (fun i : Nat => []) (fun i : Nat => i ≤ s.length ∧ (∀ j, j < i → by' s j = 32)) (fun i : Nat => s.length - i) (0) id (id) ⟨Nat.zero_le _, fun j h => absurd h (Nat.not_lt_zero _)⟩ (fits_of (gf ?_) (gf ?_) (gf ?_) (gf ?_) (gf ?_)) ?_
      · first | exact True.intro | exact ⟨rfl, rfl⟩ | exact ⟨rfl, rfl, rfl⟩ | rfl | exact rowc (List.map_id _) | trivial
      · first | exact True.intro | exact ⟨rfl, rfl⟩ | exact ⟨rfl, rfl, rfl⟩ | rfl | exact rowc (List.map_id _) | trivial
      · first | exact True.intro | exact ⟨rfl, rfl⟩ | exact ⟨rfl, rfl, rfl⟩ | rfl | exact rowc (List.map_id _) | trivial
      · first | exact True.intro | exact ⟨rfl, rfl⟩ | exact ⟨rfl, rfl, rfl⟩ | rfl | exact rowc (List.map_id _) | trivial
      · first | exact True.intro | exact ⟨rfl, rfl⟩ | exact ⟨rfl, rfl, rfl⟩ | rfl | exact rowc (List.map_id _) | trivial
      rintro i ⟨hi, hr⟩
      try refine gf ?_
      refine br (fun e => ?_) (fun e => ?_)
      · try refine gf ?_
        refine br (fun e2 => ?_) (fun e2 => ?_)
        · try refine gf ?_
          refine ⟨i + 1, ⟨by omega, fun j hj => by rcases Nat.lt_or_ge j i with h | h; exact hr j h; rw [show j = i by omega]; omega⟩, (by omega), fits_of (gf ?_) (gf ?_) (gf ?_) (gf ?_) (gf ?_)⟩
          · first | exact True.intro | exact ⟨rfl, rfl⟩ | exact ⟨rfl, rfl, rfl⟩ | rfl | exact rowc (List.map_id _) | trivial
          · first | exact True.intro | exact ⟨rfl, rfl⟩ | exact ⟨rfl, rfl, rfl⟩ | rfl | exact rowc (List.map_id _) | trivial
          · first | exact True.intro | exact ⟨rfl, rfl⟩ | exact ⟨rfl, rfl, rfl⟩ | rfl | exact rowc (List.map_id _) | trivial
          · first | exact True.intro | exact ⟨rfl, rfl⟩ | exact ⟨rfl, rfl, rfl⟩ | rfl | exact rowc (List.map_id _) | trivial
          · first | exact True.intro | exact ⟨rfl, rfl⟩ | exact ⟨rfl, rfl, rfl⟩ | rfl | exact rowc (List.map_id _) | trivial
        · try refine gf ?_
          refine wk_fit (i) (id) (⟨hi, hr, fun _ => by omega⟩) (fits_of (gf ?_) (gf ?_) (gf ?_) (gf ?_) (gf ?_))
          · first | exact True.intro | exact ⟨rfl, rfl⟩ | exact ⟨rfl, rfl, rfl⟩ | rfl | exact rowc (List.map_id _) | trivial
          · first | exact True.intro | exact ⟨rfl, rfl⟩ | exact ⟨rfl, rfl, rfl⟩ | rfl | exact rowc (List.map_id _) | trivial
          · first | exact True.intro | exact ⟨rfl, rfl⟩ | exact ⟨rfl, rfl, rfl⟩ | rfl | exact rowc (List.map_id _) | trivial
          · first | exact True.intro | exact ⟨rfl, rfl⟩ | exact ⟨rfl, rfl, rfl⟩ | rfl | exact rowc (List.map_id _) | trivial
          · first | exact True.intro | exact ⟨rfl, rfl⟩ | exact ⟨rfl, rfl, rfl⟩ | rfl | exact rowc (List.map_id _) | trivial
      · try refine gf ?_
        refine wk_fit (i) (id) (⟨hi, hr, fun _ => by omega⟩) (fits_of (gf ?_) (gf ?_) (gf ?_) (gf ?_) (gf ?_))
        · first | exact True.intro | exact ⟨rfl, rfl⟩ | exact ⟨rfl, rfl, rfl⟩ | rfl | exact rowc (List.map_id _) | trivial
        · first | exact True.intro | exact ⟨rfl, rfl⟩ | exact ⟨rfl, rfl, rfl⟩ | rfl | exact rowc (List.map_id _) | trivial
        · first | exact True.intro | exact ⟨rfl, rfl⟩ | exact ⟨rfl, rfl, rfl⟩ | rfl | exact rowc (List.map_id _) | trivial
        · first | exact True.intro | exact ⟨rfl, rfl⟩ | exact ⟨rfl, rfl, rfl⟩ | rfl | exact rowc (List.map_id _) | trivial
        · first | exact True.intro | exact ⟨rfl, rfl⟩ | exact ⟨rfl, rfl, rfl⟩ | rfl | exact rowc (List.map_id _) | trivial
    · rintro n ⟨hn, h1, h2⟩
      obtain ⟨t1, t2⟩ := ahead (f := fun b => decide (b.toNat = 32)) hn (fun i hi => spc_at (h1 i hi)) (fun h => spc_no (h2 h))
      have t2 : spB s = s.drop n := t2
      try refine gf ?_
      refine ct_hd [0, 4] [] (fun m : Nat => [(5, .n .i64 (m : Int))]) (fun m : Nat => []) (fun m : Nat => n ≤ m ∧ m ≤ s.length ∧ (∀ i, n ≤ i → i < m → 48 ≤ by' s i ∧ by' s i ≤ 55) ∧ (m < s.length → ¬ (48 ≤ by' s m ∧ by' s m ≤ 55))) (gf ?_) ?_
      · refine lp_hd [0, 4] [] (fun i : Nat => [(5, .n .i64 (i : Int))]) (fun i : Nat => []) (fun i : Nat => n ≤ i ∧ i ≤ s.length ∧ (∀ j, n ≤ j → j < i → 48 ≤ by' s j ∧ by' s j ≤ 55)) (fun i : Nat => s.length - i) (n) id (id) ⟨Nat.le_refl _, hn, fun j h h' => by omega⟩ (fits_of (gf ?_) (gf ?_) (gf ?_) (gf ?_) (gf ?_)) ?_
        · first | exact True.intro | exact ⟨rfl, rfl⟩ | exact ⟨rfl, rfl, rfl⟩ | rfl | exact rowc (List.map_id _) | trivial
        · first | exact True.intro | exact ⟨rfl, rfl⟩ | exact ⟨rfl, rfl, rfl⟩ | rfl | exact rowc (List.map_id _) | trivial
        · first | exact True.intro | exact ⟨rfl, rfl⟩ | exact ⟨rfl, rfl, rfl⟩ | rfl | exact rowc (List.map_id _) | trivial
        · first | exact True.intro | exact ⟨rfl, rfl⟩ | exact ⟨rfl, rfl, rfl⟩ | rfl | exact rowc (List.map_id _) | trivial
        · first | exact True.intro | exact ⟨rfl, rfl⟩ | exact ⟨rfl, rfl, rfl⟩ | rfl | exact rowc (List.map_id _) | trivial
        rintro i ⟨hni, hi, hr⟩
        try refine gf ?_
        repeat' (first | exact True.intro | (refine ⟨i + 1, ⟨by omega, by omega, fun j hj hj2 => by rcases Nat.lt_or_ge j i with h | h; exact hr j hj h; rw [show j = i by omega]; omega⟩, (by omega), fits_of (gf ?_) (gf ?_) (gf ?_) (gf ?_) (gf ?_)⟩ <;> (first | exact True.intro | exact ⟨rfl, rfl⟩ | exact ⟨rfl, rfl, rfl⟩ | rfl | exact rowc (List.map_id _) | trivial); done) | (refine wk_fit (i) id (⟨hni, hi, hr, fun _ => by omega⟩) (fits_of (gf ?_) (gf ?_) (gf ?_) (gf ?_) (gf ?_)) <;> (first | exact True.intro | exact ⟨rfl, rfl⟩ | exact ⟨rfl, rfl, rfl⟩ | rfl | exact rowc (List.map_id _) | trivial); done) | refine br (fun h => ?_) (fun h => ?_) | refine gf ?_)
      · rintro m ⟨hnm, hm, g1, g2⟩
        obtain ⟨u1, u2⟩ := ahead (f := octB) (s := s.drop n) (n := m - n) (by simp; omega) (fun i hi => by
          rw [List.getD_eq_getElem?_getD, List.getElem?_drop, ← List.getD_eq_getElem?_getD]
          exact oct_at.2 (g1 _ (by omega) (by omega))) (fun h => by
          rw [List.getD_eq_getElem?_getD, List.getElem?_drop, ← List.getD_eq_getElem?_getD, show n + (m - n) = m by omega, Bool.eq_false_iff]
          intro h'
          exact g2 (by simp at h; omega) (oct_at.1 h'))
        rw [List.drop_drop, show n + (m - n) = m by omega] at u2
        have e1 : (s.drop n).take (m - n) = (s.take m).drop n := by rw [List.drop_take]
        have hg : getM s = _ := if_neg h0
        rw [t2, u1, u2, e1] at hg
        try refine gf ?_
        refine cl (num_ok ((s.take m).drop n) 8 48 (by omega) (by omega) (by omega) (by simp; omega)) ?_
        refine gf ?_
        have hel : (s.take m).drop n = [] ↔ m = n := by
          rw [← List.length_eq_zero_iff]; simp; omega
        simp only [hel] at hg
        generalize numM 8 48 ((s.take m).drop n) 0 = r at hg
        refine br (fun c1 => ?_) (fun c1 => ?_)
        · try refine gf ?_
          rw [if_pos c1] at hg
          rw [hg]
          exact ⟨rfl, rfl⟩
        · rw [if_neg c1] at hg
          try refine gf ?_
          refine br (fun c2 => ?_) (fun c2 => ?_)
          · try refine gf ?_
            refine cl (nothing_ok (s.drop m) (by simp; omega)) ?_
            refine gf ?_
            refine br (fun c3 => ?_) (fun c3 => ?_)
            · try refine gf ?_
              rw [hg, if_pos (.inr c3)]
              exact ⟨rfl, rfl⟩
            · try refine gf ?_
              rw [hg, if_neg (fun h => h.elim (by omega) c3)]
              exact ⟨rfl, rfl⟩
          · try refine gf ?_
            rw [hg, if_pos (.inl (by omega))]
            exact ⟨rfl, rfl⟩
end Go.Proofs.YtagjeabdcjcchaaGreatDoor.Ev
namespace Go.Proofs.YtagjeabdcjcchaaGreatDoor.Ev
open Go.RowKit
open Go.Proofs.YtagjeabdcjcchaaGreatDoor.Mem
set_option linter.unusedVariables false
set_option linter.unusedSimpArgs false
set_option maxRecDepth 100000
def signL (op : Int) : List UInt8 := if op = 1 then [61] else if op = 2 then [60] else if op = 3 then [60, 61] else if op = 4 then [62] else if op = 5 then [62, 61] else []
theorem msign_ok (op : Int) : Spec Tryz.prog LL 90 [.n .i64 op] (.s (signL op)) := by
  refine spec_of (C := ⟨Tryz.prog, LL, EE, []⟩) (rl := [.s (signL op)]) (rs := [.tmp 2]) CCx LLs Tryz.func90 rfl (by kernel_rfl) rfl (by kernel_rfl) (Nat.le_of_ble_eq_true rfl) (fun i => rfl) (fun i => rfl) rfl (by decide) ?_
  refine gf ?_
  repeat' (first | exact True.intro | (simp_all [signL]; done) | (simp_all [signL]; omega) | refine br (fun h => ?_) (fun h => ?_) | refine gf ?_)
def ruleB (r : Rul) : Bool := nameB r.name && (bif decide (r.op = 0) then decide (r.ver = []) else decide (1 ≤ r.op) && decide (r.op ≤ 5) && verB r.ver)
theorem rule_ok (r : Rul) (h1 : r.name.length ≤ 140737488355328) (h2 : r.ver.length ≤ 140737488355328) : Spec Tryz.prog LL 123 [eRul r] (.b (ruleB r)) := by
  refine spec_of (C := ⟨Tryz.prog, LL, EE, []⟩) (rl := [.b (ruleB r)]) (rs := [.tmp 2]) CCx LLs Tryz.func123 rfl (by kernel_rfl) rfl (by kernel_rfl) (Nat.le_of_ble_eq_true rfl) (fun i => rfl) (fun i => rfl) rfl (by decide) ?_
  refine gf ?_
  have hs : signL r.op = [] ↔ ¬ (1 ≤ r.op ∧ r.op ≤ 5) := by unfold signL; (repeat' split) <;> simp <;> omega
  repeat' (first | exact True.intro | (simp_all [ruleB]; done) | (simp_all [ruleB]; omega) | refine cl (name_ok r.name h1) (gf ?_) | refine cl (msign_ok r.op) (gf ?_) | refine cl (ver_ok r.ver h2) (gf ?_) | refine br (fun h => ?_) (fun h => ?_) | refine gf ?_)
def knd (k : Int) : Prop := k = 1 ∨ k = 5 ∨ k = 2 ∨ k = 3
instance (k : Int) : Decidable (knd k) := by unfold knd; infer_instance
def sizeM (k : Int) : Int := if k = 1 ∨ k = 5 then 32 else 0
/-- The first fault of an entry. -/
def entryM (x : Ent) : Int :=
  if ¬ (partsM x.path).2 = 0 then (partsM x.path).2 else if resB x.path = true then 19 else if ¬ knd x.kind then 1 else
  if x.mode < 0 ∨ 4095 < x.mode ∨ (x.kind = 3 ∧ ¬ x.mode = 0) ∨ ¬ (x.sum.length : Int) = sizeM x.kind then 1 else
  if x.kind = 3 ∧ tarB x.target = false then 4 else if ¬ x.kind = 3 ∧ ¬ x.target = [] then 1 else 0
set_option maxHeartbeats 4000000 in
theorem entry_ok (x : Ent) (h1 : x.path.length ≤ 140737488355328) (h2 : x.target.length ≤ 140737488355328) (h3 : x.sum.length ≤ 140737488355328) : Spec Tryz.prog LL 124 [eEnt x] (.n .i64 (entryM x)) := by
  refine spec_of (C := ⟨Tryz.prog, LL, EE, [14]⟩) (rl := [.n .i64 (entryM x)]) (rs := [.tmp 2]) CCx LLs Tryz.func124 rfl (by kernel_rfl) rfl (by kernel_rfl) (Nat.le_of_ble_eq_true rfl) (fun i => rfl) (fun i => rfl) rfl (by decide) ?_
  refine gf ?_
  refine cl (parts_ok x.path h1) ?_
  refine gf ?_
  refine br (fun a => ?_) (fun a => ?_)
  · try refine gf ?_
    rw [show entryM x = _ from if_pos a]
  · have e0 : entryM x = _ := if_neg a
    try refine gf ?_
    have hp2 : x.path.length ≤ 200 := by
      rcases Nat.lt_or_ge 200 x.path.length with h | h
      · exact absurd (show (partsM x.path).2 = 3 by rw [partsM, if_pos h]) (by omega)
      · exact h
    refine cl (res_ok x.path (by omega)) ?_
    refine gf ?_
    refine br (fun b => ?_) (fun b => ?_)
    · try refine gf ?_
      rw [e0, if_pos b]
    · rw [if_neg b] at e0
      try refine gf ?_
      refine ct_hd [] [1] (fun u : Unit => [(1, .p 1 0), (5, .n .i64 (sizeM x.kind))]) (fun u : Unit => []) (fun u : Unit => knd x.kind) (gf ?_) ?_
      · repeat' (first | exact True.intro | (rw [e0, if_pos (by unfold knd; omega)]; done) | (refine wk_fit (()) id ((by unfold knd; omega)) (fits_of (gf ?_) (gf ?_) (gf ?_) (gf ?_) (gf ?_)) <;> ((first | exact True.intro | exact ⟨rfl, by rw [show sizeM x.kind = 32 from if_pos (by omega)]⟩ | exact ⟨rfl, by rw [show sizeM x.kind = 0 from if_neg (by omega)]⟩ | (rw [show sizeM x.kind = 32 from if_pos (by omega)]) | (rw [show sizeM x.kind = 0 from if_neg (by omega)]) | rfl | trivial)); done) | refine br (fun h => ?_) (fun h => ?_) | refine gf ?_)
      · rintro _ hk
        rw [if_neg (by simpa using hk)] at e0
        have t1 : (x.mode < 0 ∨ 4095 < x.mode ∨ (x.kind = 3 ∧ ¬ x.mode = 0) ∨ ¬ (x.sum.length : Int) = sizeM x.kind) → 1 = entryM x := fun h => by rw [e0, if_pos h]
        have t2 : ¬ (x.mode < 0 ∨ 4095 < x.mode ∨ (x.kind = 3 ∧ ¬ x.mode = 0) ∨ ¬ (x.sum.length : Int) = sizeM x.kind) → x.kind = 3 → tarB x.target = false → 4 = entryM x := fun h h1 h2 => by rw [e0, if_neg h, if_pos ⟨h1, h2⟩]
        have t3 : ¬ (x.mode < 0 ∨ 4095 < x.mode ∨ (x.kind = 3 ∧ ¬ x.mode = 0) ∨ ¬ (x.sum.length : Int) = sizeM x.kind) → ¬ x.kind = 3 → ¬ x.target = [] → 1 = entryM x := fun h h1 h2 => by rw [e0, if_neg h, if_neg (fun h => h1 h.1), if_pos ⟨h1, h2⟩]
        have t4 : ¬ (x.mode < 0 ∨ 4095 < x.mode ∨ (x.kind = 3 ∧ ¬ x.mode = 0) ∨ ¬ (x.sum.length : Int) = sizeM x.kind) → (x.kind = 3 → ¬ tarB x.target = false) → (¬ x.kind = 3 → x.target = []) → 0 = entryM x := fun h h1 h2 => by rw [e0, if_neg h, if_neg (fun h => h1 h.1 h.2), if_neg (fun h => h.2 (h2 h.1))]
        clear e0
        repeat' (first | exact True.intro | (exact t1 (by omega)) | (exact t2 (by omega) (by omega) (by assumption)) | (exact t3 (by omega) (by omega) (by assumption)) | (exact t4 (by omega) (fun _ => by first | assumption | omega) (fun _ => by first | assumption | omega | exact Decidable.not_not.1 (by assumption))) | refine cl (tar_ok x.target h2) (gf ?_) | refine br (fun h => ?_) (fun h => ?_) | refine gf ?_)
end Go.Proofs.YtagjeabdcjcchaaGreatDoor.Ev
namespace Go.Proofs.YtagjeabdcjcchaaGreatDoor.Ev
open Go.RowKit
open Go.Proofs.YtagjeabdcjcchaaGreatDoor.Mem
set_option linter.unusedVariables false
set_option linter.unusedSimpArgs false
set_option maxRecDepth 100000
def dirB (l : List Ent) (w : List UInt8) : Bool := l.any fun x => decide (x.path = w) && decide (x.kind = 2)
theorem hasDir_ok (l : List Ent) (w : List UInt8) (hl : l.length ≤ 100000000000000) : Spec Tryz.prog LL 126 [.sl 5 Ent dE l eEnt, .s w] (.b (dirB l w)) := by
  refine spec_of (C := ⟨Tryz.prog, LL, EE, []⟩) (rl := [.b (dirB l w)]) (rs := [.tmp 4]) CCx LLs Tryz.func126 rfl (by kernel_rfl) rfl (by kernel_rfl) (Nat.le_of_ble_eq_true rfl) (fun i => rfl) (fun i => rfl) rfl (by decide) ?_
  refine gf ?_
  refine lp_hd [1, 7, 8] [] (fun i : Nat => [(9, .n .i64 (i : Int))]) (fun i : Nat => []) (fun i : Nat => i ≤ l.length ∧ dirB l w = dirB (l.drop i) w) (fun i : Nat => l.length - i) (0) id (id) ⟨Nat.zero_le _, rfl⟩ (fits_of (gf ?_) (gf ?_) (gf ?_) (gf ?_) (gf ?_)) ?_
  · first | exact True.intro | exact ⟨rfl, rfl⟩ | exact ⟨rfl, rfl, rfl⟩ | rfl | exact rowc (List.map_id _) | trivial
  · first | exact True.intro | exact ⟨rfl, rfl⟩ | exact ⟨rfl, rfl, rfl⟩ | rfl | exact rowc (List.map_id _) | trivial
  · first | exact True.intro | exact ⟨rfl, rfl⟩ | exact ⟨rfl, rfl, rfl⟩ | rfl | exact rowc (List.map_id _) | trivial
  · first | exact True.intro | exact ⟨rfl, rfl⟩ | exact ⟨rfl, rfl, rfl⟩ | rfl | exact rowc (List.map_id _) | trivial
  · first | exact True.intro | exact ⟨rfl, rfl⟩ | exact ⟨rfl, rfl, rfl⟩ | rfl | exact rowc (List.map_id _) | trivial
  rintro i ⟨hi, hr⟩
  try refine gf ?_
  refine br (fun e => ?_) (fun e => ?_)
  · have hd := drop_at l i dE (by omega)
    have hh : dirB (l.drop i) w = (decide ((l.getD i dE).path = w) && decide ((l.getD i dE).kind = 2) || dirB (l.drop (i + 1)) w) := by rw [hd]; rfl
    rw [hh] at hr
    clear hh hd
    try refine gf ?_
    generalize l.getD i dE = x at hr
    repeat' (first | exact True.intro | (rw [hr]; simp_all; done) | (refine ⟨i + 1, ⟨by omega, by rw [hr]; simp_all⟩, (by omega), fits_of (gf ?_) (gf ?_) (gf ?_) (gf ?_) (gf ?_)⟩ <;> (first | exact True.intro | exact ⟨rfl, rfl⟩ | exact ⟨rfl, rfl, rfl⟩ | rfl | exact rowc (List.map_id _) | trivial); done) | refine br (fun h => ?_) (fun h => ?_) | refine gf ?_)
  · try refine gf ?_
    rw [hr, List.drop_eq_nil_of_le (by omega)]
    rfl
theorem rules_ok (l : List Rul) (hl : l.length ≤ 100000000000000) (h1 : ∀ r ∈ l, r.name.length ≤ 140737488355328 ∧ r.ver.length ≤ 140737488355328) : Spec Tryz.prog LL 88 [.sl 3 Rul dR l eRul] (.b (l.all ruleB)) := by
  refine spec_of (C := ⟨Tryz.prog, LL, EE, []⟩) (rl := [.b (l.all ruleB)]) (rs := [.tmp 2]) CCx LLs Tryz.func88 rfl (by kernel_rfl) rfl (by kernel_rfl) (Nat.le_of_ble_eq_true rfl) (fun i => rfl) (fun i => rfl) rfl (by decide) ?_
  refine gf ?_
  refine lp_hd [5, 6] [] (fun i : Nat => [(7, .n .i64 (i : Int))]) (fun i : Nat => []) (fun i : Nat => i ≤ l.length ∧ l.all ruleB = (l.drop i).all ruleB) (fun i : Nat => l.length - i) (0) id (id) ⟨Nat.zero_le _, rfl⟩ (fits_of (gf ?_) (gf ?_) (gf ?_) (gf ?_) (gf ?_)) ?_
  · first | exact True.intro | exact ⟨rfl, rfl⟩ | exact ⟨rfl, rfl, rfl⟩ | rfl | exact rowc (List.map_id _) | trivial
  · first | exact True.intro | exact ⟨rfl, rfl⟩ | exact ⟨rfl, rfl, rfl⟩ | rfl | exact rowc (List.map_id _) | trivial
  · first | exact True.intro | exact ⟨rfl, rfl⟩ | exact ⟨rfl, rfl, rfl⟩ | rfl | exact rowc (List.map_id _) | trivial
  · first | exact True.intro | exact ⟨rfl, rfl⟩ | exact ⟨rfl, rfl, rfl⟩ | rfl | exact rowc (List.map_id _) | trivial
  · first | exact True.intro | exact ⟨rfl, rfl⟩ | exact ⟨rfl, rfl, rfl⟩ | rfl | exact rowc (List.map_id _) | trivial
  rintro i ⟨hi, hr⟩
  try refine gf ?_
  refine br (fun e => ?_) (fun e => ?_)
  · have hd := drop_at l i dR (by omega)
    have hm : l.getD i dR ∈ l := getD_mem (by omega)
    rw [hd, List.all_cons] at hr
    clear hd
    try refine gf ?_
    refine cl (rule_ok _ (h1 _ hm).1 (h1 _ hm).2) ?_
    refine gf ?_
    repeat' (first | exact True.intro | (rw [hr]; simp_all; done) | (refine ⟨i + 1, ⟨by omega, by rw [hr]; simp_all⟩, (by omega), fits_of (gf ?_) (gf ?_) (gf ?_) (gf ?_) (gf ?_)⟩ <;> (first | exact True.intro | exact ⟨rfl, rfl⟩ | exact ⟨rfl, rfl, rfl⟩ | rfl | exact rowc (List.map_id _) | trivial); done) | refine br (fun h => ?_) (fun h => ?_) | refine gf ?_)
  · try refine gf ?_
    rw [hr, List.drop_eq_nil_of_le (by omega)]
    rfl
/-- The fault of an entry in its place. -/
def entF (l : List Ent) (i : Nat) : Int :=
  if ¬ entryM (l.getD i dE) = 0 then entryM (l.getD i dE) else if 0 < i ∧ lt' (l.getD (i - 1) dE).path (l.getD i dE).path = false then 1 else
  if ¬ parentM (l.getD i dE).path = [] ∧ dirB (l.take i) (parentM (l.getD i dE).path) = false then 4 else 0
def entsFrom (l : List Ent) : Nat → Nat → Int
  | 0, _ => 0
  | n + 1, i => if ¬ entF l i = 0 then entF l i else entsFrom l n (i + 1)
def entsM (l : List Ent) : Int := entsFrom l l.length 0
theorem entsFrom_skip (l : List Ent) : ∀ k n s, (∀ j, s ≤ j → j < s + k → entF l j = 0) → entsFrom l (k + n) s = entsFrom l n (s + k)
  | 0, n, s, _ => by rw [Nat.zero_add, Nat.add_zero]
  | k + 1, n, s, h => by
    rw [show k + 1 + n = (k + n) + 1 by omega, entsFrom, if_neg (by rw [h s (by omega) (by omega)]; simp), entsFrom_skip l k n (s + 1) (fun j h1 h2 => h j (by omega) (by omega))]
    congr 1
    omega
theorem entsM_at {l : List Ent} {i : Nat} (hi : i < l.length) (h0 : ∀ j, j < i → entF l j = 0) (h : ¬ entF l i = 0) : entsM l = entF l i := by
  obtain ⟨m, hm⟩ : ∃ m, l.length = i + (m + 1) := ⟨l.length - i - 1, by omega⟩
  unfold entsM
  rw [hm, entsFrom_skip l i (m + 1) 0 (fun j _ h => h0 j (by omega)), Nat.zero_add, entsFrom, if_pos h]
theorem entsM_0 {l : List Ent} (h0 : ∀ j, j < l.length → entF l j = 0) : entsM l = 0 := by
  have := entsFrom_skip l l.length 0 0 (fun j _ h => h0 j (by omega))
  rw [Nat.add_zero] at this
  unfold entsM
  rw [this]
  rfl
theorem parts_len {s : List UInt8} (h : (partsM s).2 = 0) : s.length ≤ 200 := by
  rcases Nat.lt_or_ge 200 s.length with h' | h'
  · rw [partsM, if_pos h'] at h
    cases h
  · exact h'
theorem entry_len {x : Ent} (h : entryM x = 0) : x.path.length ≤ 200 := by
  refine parts_len ?_
  unfold entryM at h
  split at h
  · rename_i h1; exact absurd h h1
  · rename_i h1; exact Decidable.not_not.1 h1
theorem ents_ok (l : List Ent) (hl : l.length ≤ 100000000000000) (h1 : ∀ x ∈ l, x.path.length ≤ 140737488355328 ∧ x.target.length ≤ 140737488355328 ∧ x.sum.length ≤ 140737488355328) : Spec Tryz.prog LL 89 [.sl 5 Ent dE l eEnt] (.n .i64 (entsM l)) := by
  refine spec_of (C := ⟨Tryz.prog, LL, EE, []⟩) (rl := [.n .i64 (entsM l)]) (rs := [.tmp 2]) CCx LLs Tryz.func89 rfl (by kernel_rfl) rfl (by kernel_rfl) (Nat.le_of_ble_eq_true rfl) (fun i => rfl) (fun i => rfl) rfl (by decide) ?_
  refine gf ?_
  refine lp_hd [0, 7, 8] [] (fun i : Nat => [(9, .n .i64 (i : Int))]) (fun i : Nat => []) (fun i : Nat => i ≤ l.length ∧ ∀ j, j < i → entF l j = 0) (fun i : Nat => l.length - i) (0) id (id) ⟨Nat.zero_le _, fun j h => absurd h (Nat.not_lt_zero _)⟩ (fits_of (gf ?_) (gf ?_) (gf ?_) (gf ?_) (gf ?_)) ?_
  · first | exact True.intro | exact ⟨rfl, rfl⟩ | exact ⟨rfl, rfl, rfl⟩ | rfl | exact rowc (List.map_id _) | trivial
  · first | exact True.intro | exact ⟨rfl, rfl⟩ | exact ⟨rfl, rfl, rfl⟩ | rfl | exact rowc (List.map_id _) | trivial
  · first | exact True.intro | exact ⟨rfl, rfl⟩ | exact ⟨rfl, rfl, rfl⟩ | rfl | exact rowc (List.map_id _) | trivial
  · first | exact True.intro | exact ⟨rfl, rfl⟩ | exact ⟨rfl, rfl, rfl⟩ | rfl | exact rowc (List.map_id _) | trivial
  · first | exact True.intro | exact ⟨rfl, rfl⟩ | exact ⟨rfl, rfl, rfl⟩ | rfl | exact rowc (List.map_id _) | trivial
  rintro i ⟨hi, hr⟩
  try refine gf ?_
  refine br (fun e => ?_) (fun e => ?_)
  · have hi2 : i < l.length := by omega
    have hm : l.getD i dE ∈ l := getD_mem hi2
    have hat := entsM_at hi2 hr
    obtain ⟨q1, q2, q3⟩ := h1 _ hm
    try refine gf ?_
    refine cl (entry_ok (l.getD i dE) q1 q2 q3) ?_
    refine gf ?_
    refine br (fun c1 => ?_) (fun c1 => ?_)
    · try refine gf ?_
      have h : entF l i = entryM (l.getD i dE) := if_pos c1
      rw [hat (by rw [h]; exact c1), h]
    · have hl2 := entry_len (Decidable.not_not.1 c1)
      have h0 : entF l i = _ := if_neg c1
      have hds : (l.take i).length ≤ 100000000000000 := by simp; omega
      have t1 : 0 < i → lt' (l.getD (i - 1) dE).path (l.getD i dE).path = false → 1 = entsM l := fun h1 h2 => by rw [if_pos ⟨h1, h2⟩] at h0; rw [hat (by omega), h0]
      have t2 : (0 < i → ¬ lt' (l.getD (i - 1) dE).path (l.getD i dE).path = false) → ¬ parentM (l.getD i dE).path = [] → dirB (l.take i) (parentM (l.getD i dE).path) = false → 4 = entsM l := fun h1 h2 h3 => by rw [if_neg (fun h => h1 h.1 h.2), if_pos ⟨h2, h3⟩] at h0; rw [hat (by omega), h0]
      have t3 : (0 < i → ¬ lt' (l.getD (i - 1) dE).path (l.getD i dE).path = false) → (¬ parentM (l.getD i dE).path = [] → ¬ dirB (l.take i) (parentM (l.getD i dE).path) = false) → ∀ j, j < i + 1 → entF l j = 0 := fun h1 h2 j hj => by
        rcases Nat.lt_or_ge j i with h | h
        · exact hr j h
        · rw [show j = i by omega, h0, if_neg (fun h => h1 h.1 h.2), if_neg (fun h => h2 h.1 h.2)]
      clear hat h0
      repeat' (first | exact True.intro | (exact t1 (by omega) (by simp_all)) | (exact t2 (fun _ => by first | omega | simp_all) (by assumption) (by assumption)) | (refine ⟨i + 1, ⟨by omega, t3 (fun _ => by first | omega | simp_all) (fun _ => by first | assumption | contradiction)⟩, (by omega), fits_of (gf ?_) (gf ?_) (gf ?_) (gf ?_) (gf ?_)⟩ <;> (first | exact True.intro | exact ⟨rfl, rfl⟩ | exact ⟨rfl, rfl, rfl⟩ | rfl | exact rowc (List.map_id _) | trivial); done) | (rw [show ((i : Int) - 1).toNat = i - 1 by omega]) | refine cl (parent_ok (l.getD i dE).path (by omega)) (gf ?_) | refine cl (hasDir_ok (l.take i) (parentM (l.getD i dE).path) hds) (gf ?_) | refine br (fun h => ?_) (fun h => ?_) | refine gf ?_)
  · try refine gf ?_
    rw [entsM_0 fun j hj => hr j (by omega)]
end Go.Proofs.YtagjeabdcjcchaaGreatDoor.Ev
