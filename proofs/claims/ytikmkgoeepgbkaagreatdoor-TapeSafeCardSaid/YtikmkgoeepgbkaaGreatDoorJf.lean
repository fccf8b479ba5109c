/- The number of a field. -/
import Derived.Test.YtikmkgoeepgbkaaGreatDoorJd
set_option linter.all false
namespace Go.Proofs.YtikmkgoeepgbkaaGreatDoor.Ev
open Go.RowKit
open Go.Proofs.YtikmkgoeepgbkaaGreatDoor.Mem
set_option linter.unusedVariables false
set_option linter.unusedSimpArgs false
set_option maxRecDepth 100000
def numM (base zr : Nat) : List UInt8 → Nat → Nat × Int
  | [], n => (n, 0)
  | b :: r, n => if n > (9223372036854775807 - (b.toNat + 256 - zr) % 256) / base then (0, 3) else numM base zr r (n * base + (b.toNat + 256 - zr) % 256)
theorem by_drop {s : List UInt8} {i : Nat} (h : i < s.length) : ∃ b, s.drop i = b :: s.drop (i + 1) ∧ by' s i = b.toNat := by
  refine ⟨s.getD i 0, drop_at s i 0 h, rfl⟩
theorem gf {p q : Prop} (hq : q) (h : p ↔ q := by simp (config := { maxSteps := 10000000 }) (disch := omega) only [dv8, fxM, cSd, wrc, eRd, eEd, eMd, eBd, eEE, rDs, eok, true_implies, eo5, ev5, Nat.mul_one, Nat.zero_mul, Nat.one_mul, Nat.add_zero, lenl, bne_self_eq_false, Int.reduceLT, Int.reduceLE, Int.reduceEq, Int.reduceNe, Int.reduceAdd, Int.reduceSub, Int.reduceMul, Int.reduceNeg, ebr, wr64, sdl, ler, true_or, or_true, rng, List.length_map, List.length_range, List.length_append, List.length_replicate, List.length_set, List.length_take, List.length_drop, List.not_mem_nil, false_implies, implies_true, ↓ec, ↓eg, ↓eo, ↓eox, ↓es, ↓et1, em, emR, efz, enl, ebx, ebt, et, ev, List.drop_nil, Option.some.injEq, Option.isSome_none, Int.reduceToNat, List.replicate_zero, Bool.or_self, ez, ef, ebd, et2, Int.toNat_natCast, Option.map_none, Option.map_some, List.all_cons, List.all_nil, Bool.and_self, List.cons_append, List.nil_append, List.append_nil, List.append_assoc, ep, ew, Option.isSome_some, id_eq, Nat.reduceLT, Nat.reduceSub, Bool.false_or, Bool.true_or, Bool.or_true, Bool.true_and, Bool.and_true, reduceCtorEq, Nat.reduceBEq, Bool.true_eq_false, Bool.false_eq_true, List.map_cons, List.map_nil, List.take_succ_cons, List.take_zero, List.drop_succ_cons, List.drop_zero, List.length_cons, List.length_nil, Nat.zero_add, Nat.reduceAdd, Nat.reduceLeDiff, Bool.not_true, Bool.not_false, List.getElem?_cons_succ, List.getElem?_cons_zero, Option.bind_some, ne_eq, not_false_eq_true, ↓eh1, eh, en, List.getD_cons_zero, List.getD_cons_succ, Nat.reduceEqDiff, ↓reduceIte, cond_true, cond_false, Bool.or_false, decide_true, decide_false, true_and, and_true, decide_eq_true_eq, decide_eq_false_iff_not, Bool.not_eq_true', Bool.not_eq_false', not_true_eq_false, Decidable.not_not]; exact Iff.rfl) : p := h.2 hq
theorem w8z (b zr : Nat) (hb : b < 256) (hz : zr < 256) : IntKind.u8.wrap ((b : Int) - (zr : Int)) = (((b + 256 - zr) % 256 : Nat) : Int) := by
  simp [IntKind.wrap, IntKind.bits, IntKind.signed]; omega
theorem tdN (a b : Nat) : ((a : Int)).tdiv (b : Int) = ((a / b : Nat) : Int) := rfl
theorem num_ok (s : List UInt8) (base zr : Nat) (hb : 2 ≤ base) (hb2 : base ≤ 256) (hz : zr < 256) (hs : s.length ≤ 2000000) : Spec Tryz.prog LL 115 [.s s, .n .i64 (base : Int), .n .u8 (zr : Int)] (.tp [.n .i64 ((numM base zr s 0).1 : Int), .n .i64 (numM base zr s 0).2]) := by
  refine spec_of (C := ⟨Tryz.prog, LL, EE, []⟩) (rl := [.n .i64 ((numM base zr s 0).1 : Int), .n .i64 (numM base zr s 0).2]) (rs := [.tmp 6, .tmp 7]) CCx LLs Tryz.func115 rfl (by kernel_rfl) rfl (by kernel_rfl) (Nat.le_of_ble_eq_true rfl) (fun i => rfl) (fun i => by first | rfl | exact (Bool.or_false _).trans (eSd_men _ _)) rfl (by decide) ?_
  refine gf ?_
  refine lp_hd [0, 1, 2] [] (fun x : Nat × Nat => [(8, .n .i64 (x.2 : Int)), (9, .n .i64 (x.1 : Int))]) (fun x : Nat × Nat => []) (fun x : Nat × Nat => x.1 ≤ s.length ∧ x.2 < 9223372036854775808 ∧ numM base zr s 0 = numM base zr (s.drop x.1) x.2) (fun x : Nat × Nat => s.length - x.1) ((0, 0)) id (id) ⟨Nat.zero_le _, by decide, rfl⟩ (fits_of (gf ?_) (gf ?_) (gf ?_) (gf ?_) (gf ?_)) ?_
  · first | exact True.intro | exact ⟨rfl, rfl⟩ | exact ⟨rfl, rfl, rfl⟩ | rfl | exact rowc (List.map_id _) | trivial
  · first | exact True.intro | exact ⟨rfl, rfl⟩ | exact ⟨rfl, rfl, rfl⟩ | rfl | exact rowc (List.map_id _) | trivial
  · first | exact True.intro | exact ⟨rfl, rfl⟩ | exact ⟨rfl, rfl, rfl⟩ | rfl | exact rowc (List.map_id _) | trivial
  · first | exact True.intro | exact ⟨rfl, rfl⟩ | exact ⟨rfl, rfl, rfl⟩ | rfl | exact rowc (List.map_id _) | trivial
  · first | exact True.intro | exact ⟨rfl, rfl⟩ | exact ⟨rfl, rfl, rfl⟩ | rfl | exact rowc (List.map_id _) | trivial
  rintro ⟨i, n⟩ ⟨hi, hn, hr⟩
  dsimp only at hi hn hr ⊢
  try refine gf ?_
  refine br (fun e => ?_) (fun e => ?_)
  · obtain ⟨b, q1, q2⟩ := by_drop (s := s) (i := i) (by omega)
    have hb' : b.toNat < 256 := b.toNat_lt
    rw [q1, numM] at hr
    rw [← q2] at hr
    try refine gf ?_
    rw [w8z _ zr (by_lt s i) hz]
    have hd : (by' s i + 256 - zr) % 256 < 256 := Nat.mod_lt _ (by omega)
    generalize (by' s i + 256 - zr) % 256 = d at hr hd
    try refine gf ?_
    rw [show (9223372036854775807 : Int) - (d : Int) = ((9223372036854775807 - d : Nat) : Int) by omega, tdN]
    have hq : (9223372036854775807 - d) / base ≤ 9223372036854775807 := Nat.le_trans (Nat.div_le_self _ _) (by omega)
    have hm : n ≤ (9223372036854775807 - d) / base → n * base + d ≤ 9223372036854775807 := fun h1 => by
      have := (Nat.le_div_iff_mul_le (by omega)).1 h1
      omega
    generalize (9223372036854775807 - d) / base = Q at *
    try refine gf ?_
    refine br (fun c => ?_) (fun c => ?_)
    · try refine gf ?_
      rw [hr, if_pos (by omega)]
      exact ⟨rfl, rfl⟩
    · have hm := hm (by omega)
      rw [if_neg (by omega)] at hr
      try refine gf ?_
      rw [show (n : Int) * (base : Int) = ((n * base : Nat) : Int) by rw [Int.natCast_mul]]
      refine ⟨(i + 1, n * base + d), ⟨by dsimp only; omega, by dsimp only; omega, hr⟩, (by dsimp only; omega), fits_of (gf ?_) (gf ?_) (gf ?_) (gf ?_) (gf ?_)⟩
      · first | exact True.intro | exact ⟨rfl, rfl⟩ | exact ⟨rfl, rfl, rfl⟩ | rfl | exact rowc (List.map_id _) | trivial
      · (exact ⟨by rw [Int.natCast_add], rfl⟩)
      · first | exact True.intro | exact ⟨rfl, rfl⟩ | exact ⟨rfl, rfl, rfl⟩ | rfl | exact rowc (List.map_id _) | trivial
      · first | exact True.intro | exact ⟨rfl, rfl⟩ | exact ⟨rfl, rfl, rfl⟩ | rfl | exact rowc (List.map_id _) | trivial
      · first | exact True.intro | exact ⟨rfl, rfl⟩ | exact ⟨rfl, rfl, rfl⟩ | rfl | exact rowc (List.map_id _) | trivial
  · try refine gf ?_
    rw [hr, List.drop_eq_nil_of_le (by omega)]
    exact ⟨rfl, rfl⟩
def blankB (s : List UInt8) : Bool := s.all fun b => decide (b.toNat = 32) || decide (b.toNat = 0)
theorem nothing_ok (s : List UInt8) (hs : s.length ≤ 2000000) : Spec Tryz.prog LL 116 [.s s] (.b (blankB s)) := by
  refine spec_of (C := ⟨Tryz.prog, LL, EE, []⟩) (rl := [.b (blankB s)]) (rs := [.tmp 2]) CCx LLs Tryz.func116 rfl (by kernel_rfl) rfl (by kernel_rfl) (Nat.le_of_ble_eq_true rfl) (fun i => rfl) (fun i => by first | rfl | exact (Bool.or_false _).trans (eSd_men _ _)) rfl (by decide) ?_
  refine gf ?_
  refine lp_hd [0] [] (fun i : Nat => [(3, .n .i64 (i : Int))]) (fun i : Nat => []) (fun i : Nat => i ≤ s.length ∧ blankB s = blankB (s.drop i)) (fun i : Nat => s.length - i) (0) id (id) ⟨Nat.zero_le _, rfl⟩ (fits_of (gf ?_) (gf ?_) (gf ?_) (gf ?_) (gf ?_)) ?_
  · first | exact True.intro | exact ⟨rfl, rfl⟩ | exact ⟨rfl, rfl, rfl⟩ | rfl | exact rowc (List.map_id _) | trivial
  · first | exact True.intro | exact ⟨rfl, rfl⟩ | exact ⟨rfl, rfl, rfl⟩ | rfl | exact rowc (List.map_id _) | trivial
  · first | exact True.intro | exact ⟨rfl, rfl⟩ | exact ⟨rfl, rfl, rfl⟩ | rfl | exact rowc (List.map_id _) | trivial
  · first | exact True.intro | exact ⟨rfl, rfl⟩ | exact ⟨rfl, rfl, rfl⟩ | rfl | exact rowc (List.map_id _) | trivial
  · first | exact True.intro | exact ⟨rfl, rfl⟩ | exact ⟨rfl, rfl, rfl⟩ | rfl | exact rowc (List.map_id _) | trivial
  rintro i ⟨hi, hr⟩
  try refine gf ?_
  refine br (fun e => ?_) (fun e => ?_)
  · obtain ⟨b, q1, q2⟩ := by_drop (s := s) (i := i) (by omega)
    rw [q1] at hr
    have hh : blankB (b :: s.drop (i + 1)) = ((decide (b.toNat = 32) || decide (b.toNat = 0)) && blankB (s.drop (i + 1))) := rfl
    rw [hh, ← q2] at hr
    clear hh q1
    repeat' (first | exact True.intro | (rw [hr]; simp; omega) | (refine ⟨i + 1, ⟨by omega, by rw [hr]; simp; omega⟩, (by omega), fits_of (gf ?_) (gf ?_) (gf ?_) (gf ?_) (gf ?_)⟩ <;> (first | exact True.intro | exact ⟨rfl, rfl⟩ | exact ⟨rfl, rfl, rfl⟩ | rfl | exact rowc (List.map_id _) | trivial); done) | refine br (fun h => ?_) (fun h => ?_) | refine gf ?_)
  · try refine gf ?_
    rw [List.drop_eq_nil_of_le (by omega)] at hr
    rw [hr]
    rfl
/-- The number of a field. -/
def spB : List UInt8 → List UInt8 := List.dropWhile fun b => decide (b.toNat = 32)
def octB (b : UInt8) : Bool := decide (48 ≤ b.toNat) && decide (b.toNat ≤ 55)
def getM (s : List UInt8) : Nat × Int :=
  if s.length > 0 ∧ by' s 0 = 128 then numM 256 0 (s.drop 1) 0 else
  if ¬ (numM 8 48 ((spB s).takeWhile octB) 0).2 = 0 then (0, (numM 8 48 ((spB s).takeWhile octB) 0).2) else
  if (spB s).takeWhile octB = [] ∨ blankB ((spB s).dropWhile octB) = false then (0, 2) else ((numM 8 48 ((spB s).takeWhile octB) 0).1, 0)
/-- How many there are ahead that fit. -/
theorem ahead {f : UInt8 → Bool} {s : List UInt8} {n : Nat} (h1 : n ≤ s.length) (h2 : ∀ i, i < n → f (s.getD i 0) = true) (h3 : n < s.length → f (s.getD n 0) = false) : s.takeWhile f = s.take n ∧ s.dropWhile f = s.drop n := by
  induction n generalizing s with
  | zero =>
    cases s with
    | nil => exact ⟨rfl, rfl⟩
    | cons b s =>
      have h4 : f b = false := by simpa using h3 (by simp)
      simp [List.takeWhile, List.dropWhile, h4]
  | succ n ih =>
    cases s with
    | nil => simp at h1
    | cons b s =>
      have hb : f b = true := by simpa using h2 0 (by omega)
      obtain ⟨k1, k2⟩ := ih (s := s) (by simpa using h1) (fun i hi => by simpa using h2 (i + 1) (by omega)) (fun h => by simpa using h3 (by simpa using h))
      simp [List.takeWhile, List.dropWhile, hb, k1, k2]
theorem spc_at {s : List UInt8} {i : Nat} (h : by' s i = 32) : (fun b : UInt8 => decide (b.toNat = 32)) (s.getD i 0) = true := decide_eq_true h
theorem spc_no {s : List UInt8} {i : Nat} (h : ¬ by' s i = 32) : (fun b : UInt8 => decide (b.toNat = 32)) (s.getD i 0) = false := decide_eq_false h
theorem oct_at {s : List UInt8} {i : Nat} : octB (s.getD i 0) = true ↔ 48 ≤ by' s i ∧ by' s i ≤ 55 := by simp [octB, by']
theorem get_ok (s : List UInt8) (hs : s.length ≤ 1500000) : Spec Tryz.prog LL 84 [.s s] (.tp [.n .i64 ((getM s).1 : Int), .n .i64 (getM s).2]) := by
  refine spec_of (C := ⟨Tryz.prog, LL, EE, [3, 6, 9]⟩) (rl := [.n .i64 ((getM s).1 : Int), .n .i64 (getM s).2]) (rs := [.tmp 2, .tmp 3]) CCx LLs Tryz.func84 rfl (by kernel_rfl) rfl (by kernel_rfl) (Nat.le_of_ble_eq_true rfl) (fun i => rfl) (fun i => by first | rfl | exact (Bool.or_false _).trans (eSd_men _ _)) rfl (by decide) ?_
  refine gf ?_
  refine ct_hd [0] [] (fun x : Unit => []) (fun x : Unit => []) (fun x : Unit => ¬ (s.length > 0 ∧ by' s 0 = 128)) (gf ?_) ?_
  · refine br (fun a => ?_) (fun a => ?_)
    · try refine gf ?_
      refine br (fun b => ?_) (fun b => ?_)
      · try refine gf ?_
        refine cl (num_ok (s.drop 1) 256 0 (by omega) (by omega) (by omega) (by simp; omega)) ?_
        refine gf ?_
        rw [show getM s = numM 256 0 (s.drop 1) 0 from if_pos ⟨by omega, by omega⟩]
        exact ⟨rfl, rfl⟩
      · try refine gf ?_
        refine wk_fit (()) (id) ((by omega)) (fits_of (gf ?_) (gf ?_) (gf ?_) (gf ?_) (gf ?_))
        · first | exact True.intro | exact ⟨rfl, rfl⟩ | exact ⟨rfl, rfl, rfl⟩ | rfl | exact rowc (List.map_id _) | trivial
        · first | exact True.intro | exact ⟨rfl, rfl⟩ | exact ⟨rfl, rfl, rfl⟩ | rfl | exact rowc (List.map_id _) | trivial
        · first | exact True.intro | exact ⟨rfl, rfl⟩ | exact ⟨rfl, rfl, rfl⟩ | rfl | exact rowc (List.map_id _) | trivial
        · first | exact True.intro | exact ⟨rfl, rfl⟩ | exact ⟨rfl, rfl, rfl⟩ | rfl | exact rowc (List.map_id _) | trivial
        · first | exact True.intro | exact ⟨rfl, rfl⟩ | exact ⟨rfl, rfl, rfl⟩ | rfl | exact rowc (List.map_id _) | trivial
    · try refine gf ?_
      refine wk_fit (()) (id) ((by omega)) (fits_of (gf ?_) (gf ?_) (gf ?_) (gf ?_) (gf ?_))
      · first | exact True.intro | exact ⟨rfl, rfl⟩ | exact ⟨rfl, rfl, rfl⟩ | rfl | exact rowc (List.map_id _) | trivial
      · first | exact True.intro | exact ⟨rfl, rfl⟩ | exact ⟨rfl, rfl, rfl⟩ | rfl | exact rowc (List.map_id _) | trivial
      · first | exact True.intro | exact ⟨rfl, rfl⟩ | exact ⟨rfl, rfl, rfl⟩ | rfl | exact rowc (List.map_id _) | trivial
      · first | exact True.intro | exact ⟨rfl, rfl⟩ | exact ⟨rfl, rfl, rfl⟩ | rfl | exact rowc (List.map_id _) | trivial
      · first | exact True.intro | exact ⟨rfl, rfl⟩ | exact ⟨rfl, rfl, rfl⟩ | rfl | exact rowc (List.map_id _) | trivial
  · rintro _ h0
    try refine gf ?_
    refine ct_hd [0] [] (fun n : Nat => [(4, .n .i64 (n : Int))]) (fun n : Nat => []) (fun n : Nat => n ≤ s.length ∧ (∀ i, i < n → by' s i = 32) ∧ (n < s.length → ¬ by' s n = 32)) (gf ?_) ?_
    · refine lp_hd [0] [] (fun i : Nat => [(4, .n .i64 (i : Int))]) (fun i : Nat => []) (fun i : Nat => i ≤ s.length ∧ (∀ j, j < i → by' s j = 32)) (fun i : Nat => s.length - i) (0) id (id) ⟨Nat.zero_le _, fun j h => absurd h (Nat.not_lt_zero _)⟩ (fits_of (gf ?_) (gf ?_) (gf ?_) (gf ?_) (gf ?_)) ?_
      · first | exact True.intro | exact ⟨rfl, rfl⟩ | exact ⟨rfl, rfl, rfl⟩ | rfl | exact rowc (List.map_id _) | trivial
      · first | exact True.intro | exact ⟨rfl, rfl⟩ | exact ⟨rfl, rfl, rfl⟩ | rfl | exact rowc (List.map_id _) | trivial
      · first | exact True.intro | exact ⟨rfl, rfl⟩ | exact ⟨rfl, rfl, rfl⟩ | rfl | exact rowc (List.map_id _) | trivial
      · first | exact True.intro | exact ⟨rfl, rfl⟩ | exact ⟨rfl, rfl, rfl⟩ | rfl | exact rowc (List.map_id _) | trivial
      · first | exact True.intro | exact ⟨rfl, rfl⟩ | exact ⟨rfl, rfl, rfl⟩ | rfl | exact rowc (List.map_id _) | trivial
      rintro i ⟨hi, hr⟩
      try refine gf ?_
      refine br (fun e => ?_) (fun e => ?_)
      · try refine gf ?_
        refine br (fun e2 => ?_) (fun e2 => ?_)
        · try refine gf ?_
          refine ⟨i + 1, ⟨by omega, fun j hj => by rcases Nat.lt_or_ge j i with h | h; exact hr j h; rw [show j = i by omega]; omega⟩, (by omega), fits_of (gf ?_) (gf ?_) (gf ?_) (gf ?_) (gf ?_)⟩
          · first | exact True.intro | exact ⟨rfl, rfl⟩ | exact ⟨rfl, rfl, rfl⟩ | rfl | exact rowc (List.map_id _) | trivial
          · first | exact True.intro | exact ⟨rfl, rfl⟩ | exact ⟨rfl, rfl, rfl⟩ | rfl | exact rowc (List.map_id _) | trivial
          · first | exact True.intro | exact ⟨rfl, rfl⟩ | exact ⟨rfl, rfl, rfl⟩ | rfl | exact rowc (List.map_id _) | trivial
          · first | exact True.intro | exact ⟨rfl, rfl⟩ | exact ⟨rfl, rfl, rfl⟩ | rfl | exact rowc (List.map_id _) | trivial
          · first | exact True.intro | exact ⟨rfl, rfl⟩ | exact ⟨rfl, rfl, rfl⟩ | rfl | exact rowc (List.map_id _) | trivial
        · try refine gf ?_
          refine wk_fit (i) (id) (⟨hi, hr, fun _ => by omega⟩) (fits_of (gf ?_) (gf ?_) (gf ?_) (gf ?_) (gf ?_))
          · first | exact True.intro | exact ⟨rfl, rfl⟩ | exact ⟨rfl, rfl, rfl⟩ | rfl | exact rowc (List.map_id _) | trivial
          · first | exact True.intro | exact ⟨rfl, rfl⟩ | exact ⟨rfl, rfl, rfl⟩ | rfl | exact rowc (List.map_id _) | trivial
          · first | exact True.intro | exact ⟨rfl, rfl⟩ | exact ⟨rfl, rfl, rfl⟩ | rfl | exact rowc (List.map_id _) | trivial
          · first | exact True.intro | exact ⟨rfl, rfl⟩ | exact ⟨rfl, rfl, rfl⟩ | rfl | exact rowc (List.map_id _) | trivial
          · first | exact True.intro | exact ⟨rfl, rfl⟩ | exact ⟨rfl, rfl, rfl⟩ | rfl | exact rowc (List.map_id _) | trivial
      · try refine gf ?_
        refine wk_fit (i) (id) (⟨hi, hr, fun _ => by omega⟩) (fits_of (gf ?_) (gf ?_) (gf ?_) (gf ?_) (gf ?_))
        · first | exact True.intro | exact ⟨rfl, rfl⟩ | exact ⟨rfl, rfl, rfl⟩ | rfl | exact rowc (List.map_id _) | trivial
        · first | exact True.intro | exact ⟨rfl, rfl⟩ | exact ⟨rfl, rfl, rfl⟩ | rfl | exact rowc (List.map_id _) | trivial
        · first | exact True.intro | exact ⟨rfl, rfl⟩ | exact ⟨rfl, rfl, rfl⟩ | rfl | exact rowc (List.map_id _) | trivial
        · first | exact True.intro | exact ⟨rfl, rfl⟩ | exact ⟨rfl, rfl, rfl⟩ | rfl | exact rowc (List.map_id _) | trivial
        · first | exact True.intro | exact ⟨rfl, rfl⟩ | exact ⟨rfl, rfl, rfl⟩ | rfl | exact rowc (List.map_id _) | trivial
    · rintro n ⟨hn, h1, h2⟩
      obtain ⟨t1, t2⟩ := ahead (f := fun b => decide (b.toNat = 32)) hn (fun i hi => spc_at (h1 i hi)) (fun h => spc_no (h2 h))
      have t2 : spB s = s.drop n := t2
      try refine gf ?_
      refine ct_hd [0, 4] [] (fun m : Nat => [(5, .n .i64 (m : Int))]) (fun m : Nat => []) (fun m : Nat => n ≤ m ∧ m ≤ s.length ∧ (∀ i, n ≤ i → i < m → 48 ≤ by' s i ∧ by' s i ≤ 55) ∧ (m < s.length → ¬ (48 ≤ by' s m ∧ by' s m ≤ 55))) (gf ?_) ?_
      · refine lp_hd [0, 4] [] (fun i : Nat => [(5, .n .i64 (i : Int))]) (fun i : Nat => []) (fun i : Nat => n ≤ i ∧ i ≤ s.length ∧ (∀ j, n ≤ j → j < i → 48 ≤ by' s j ∧ by' s j ≤ 55)) (fun i : Nat => s.length - i) (n) id (id) ⟨Nat.le_refl _, hn, fun j h h' => by omega⟩ (fits_of (gf ?_) (gf ?_) (gf ?_) (gf ?_) (gf ?_)) ?_
        · first | exact True.intro | exact ⟨rfl, rfl⟩ | exact ⟨rfl, rfl, rfl⟩ | rfl | exact rowc (List.map_id _) | trivial
        · first | exact True.intro | exact ⟨rfl, rfl⟩ | exact ⟨rfl, rfl, rfl⟩ | rfl | exact rowc (List.map_id _) | trivial
        · first | exact True.intro | exact ⟨rfl, rfl⟩ | exact ⟨rfl, rfl, rfl⟩ | rfl | exact rowc (List.map_id _) | trivial
        · first | exact True.intro | exact ⟨rfl, rfl⟩ | exact ⟨rfl, rfl, rfl⟩ | rfl | exact rowc (List.map_id _) | trivial
        · first | exact True.intro | exact ⟨rfl, rfl⟩ | exact ⟨rfl, rfl, rfl⟩ | rfl | exact rowc (List.map_id _) | trivial
        rintro i ⟨hni, hi, hr⟩
        try refine gf ?_
        repeat' (first | exact True.intro | (refine ⟨i + 1, ⟨by omega, by omega, fun j hj hj2 => by rcases Nat.lt_or_ge j i with h | h; exact hr j hj h; rw [show j = i by omega]; omega⟩, (by omega), fits_of (gf ?_) (gf ?_) (gf ?_) (gf ?_) (gf ?_)⟩ <;> (first | exact True.intro | exact ⟨rfl, rfl⟩ | exact ⟨rfl, rfl, rfl⟩ | rfl | exact rowc (List.map_id _) | trivial); done) | (refine wk_fit (i) id (⟨hni, hi, hr, fun _ => by omega⟩) (fits_of (gf ?_) (gf ?_) (gf ?_) (gf ?_) (gf ?_)) <;> (first | exact True.intro | exact ⟨rfl, rfl⟩ | exact ⟨rfl, rfl, rfl⟩ | rfl | exact rowc (List.map_id _) | trivial); done) | refine br (fun h => ?_) (fun h => ?_) | refine gf ?_)
      · rintro m ⟨hnm, hm, g1, g2⟩
        obtain ⟨u1, u2⟩ := ahead (f := octB) (s := s.drop n) (n := m - n) (by simp; omega) (fun i hi => by
          rw [List.getD_eq_getElem?_getD, List.getElem?_drop, ← List.getD_eq_getElem?_getD]
          exact oct_at.2 (g1 _ (by omega) (by omega))) (fun h => by
          rw [List.getD_eq_getElem?_getD, List.getElem?_drop, ← List.getD_eq_getElem?_getD, show n + (m - n) = m by omega, Bool.eq_false_iff]
          intro h'
          exact g2 (by simp at h; omega) (oct_at.1 h'))
        rw [List.drop_drop, show n + (m - n) = m by omega] at u2
        have e1 : (s.drop n).take (m - n) = (s.take m).drop n := by rw [List.drop_take]
        have hg : getM s = _ := if_neg h0
        rw [t2, u1, u2, e1] at hg
        try refine gf ?_
        refine cl (num_ok ((s.take m).drop n) 8 48 (by omega) (by omega) (by omega) (by simp; omega)) ?_
        refine gf ?_
        have hel : (s.take m).drop n = [] ↔ m = n := by
          rw [← List.length_eq_zero_iff]; simp; omega
        simp only [hel] at hg
        generalize numM 8 48 ((s.take m).drop n) 0 = r at hg
        refine br (fun c1 => ?_) (fun c1 => ?_)
        · try refine gf ?_
          rw [if_pos c1] at hg
          rw [hg]
          exact ⟨rfl, rfl⟩
        · rw [if_neg c1] at hg
          try refine gf ?_
          refine br (fun c2 => ?_) (fun c2 => ?_)
          · try refine gf ?_
            refine cl (nothing_ok (s.drop m) (by simp; omega)) ?_
            refine gf ?_
            refine br (fun c3 => ?_) (fun c3 => ?_)
            · try refine gf ?_
              rw [hg, if_pos (.inr c3)]
              exact ⟨rfl, rfl⟩
            · try refine gf ?_
              rw [hg, if_neg (fun h => h.elim (by omega) c3)]
              exact ⟨rfl, rfl⟩
          · try refine gf ?_
            rw [hg, if_pos (.inl (by omega))]
            exact ⟨rfl, rfl⟩
end Go.Proofs.YtikmkgoeepgbkaaGreatDoor.Ev
