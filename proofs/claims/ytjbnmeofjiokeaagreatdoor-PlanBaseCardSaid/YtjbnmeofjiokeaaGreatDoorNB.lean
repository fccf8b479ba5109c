/- Octal digits, and bytes as signs. -/
import Derived.Test.YtjbnmeofjiokeaaGreatDoorNA
set_option linter.all false
namespace Go.Proofs.YtjbnmeofjiokeaaGreatDoor.Ev
open Go.RowKit
open Go.Proofs.YtjbnmeofjiokeaaGreatDoor.Mem
set_option linter.unusedVariables false
set_option linter.unusedSimpArgs false
set_option maxRecDepth 100000
theorem dv8 : (∀ a : Nat, (a : Int).tmod 8 = ((a % 8 : Nat) : Int)) ∧ (∀ a : Nat, (a : Int).tdiv 8 = ((a / 8 : Nat) : Int)) ∧ (∀ a : Nat, (a : Int).tmod 2 = ((a % 2 : Nat) : Int)) ∧ (∀ a : Nat, (a : Int).tdiv 2 = ((a / 2 : Nat) : Int)) := ⟨fun a => rfl, fun a => rfl, fun a => rfl, fun a => rfl⟩
theorem gd {p q : Prop} (hq : q) (h : p ↔ q := by simp (config := { maxSteps := 10000000 }) (disch := omega) only [dv8, fxM, cSd, wrc, eRd, eEd, eMd, eBd, eEE, rDs, eok, true_implies, eo5, ev5, Nat.mul_one, Nat.zero_mul, Nat.one_mul, Nat.add_zero, lenl, bne_self_eq_false, Int.reduceLT, Int.reduceLE, Int.reduceEq, Int.reduceNe, Int.reduceAdd, Int.reduceSub, Int.reduceMul, Int.reduceNeg, ebr, wr64, sdl, ler, true_or, or_true, rng, List.length_map, List.length_range, List.length_append, List.length_replicate, List.length_set, List.length_take, List.length_drop, List.not_mem_nil, false_implies, implies_true, ↓ec, ↓eg, ↓eo, ↓eox, ↓es, ↓et1, em, emR, efz, enl, ebx, ebt, et, ev, List.drop_nil, Option.some.injEq, Option.isSome_none, Int.reduceToNat, List.replicate_zero, Bool.or_self, ez, ef, ebd, et2, Int.toNat_natCast, Option.map_none, Option.map_some, List.all_cons, List.all_nil, Bool.and_self, List.cons_append, List.nil_append, List.append_nil, List.append_assoc, ep, ew, Option.isSome_some, id_eq, Nat.reduceLT, Nat.reduceSub, Bool.false_or, Bool.true_or, Bool.or_true, Bool.true_and, Bool.and_true, reduceCtorEq, Nat.reduceBEq, Bool.true_eq_false, Bool.false_eq_true, List.map_cons, List.map_nil, List.take_succ_cons, List.take_zero, List.drop_succ_cons, List.drop_zero, List.length_cons, List.length_nil, Nat.zero_add, Nat.reduceAdd, Nat.reduceLeDiff, Bool.not_true, Bool.not_false, List.getElem?_cons_succ, List.getElem?_cons_zero, Option.bind_some, ne_eq, not_false_eq_true, ↓eh1, eh, en, List.getD_cons_zero, List.getD_cons_succ, Nat.reduceEqDiff, ↓reduceIte, cond_true, cond_false, Bool.or_false, decide_true, decide_false, true_and, and_true, decide_eq_true_eq, decide_eq_false_iff_not, Bool.not_eq_true', Bool.not_eq_false', not_true_eq_false, Decidable.not_not]; exact Iff.rfl) : p := h.2 hq
end Go.Proofs.YtjbnmeofjiokeaaGreatDoor.Ev
namespace Go.Proofs.YtjbnmeofjiokeaaGreatDoor.Ev
open Go.RowKit
open Go.Proofs.YtjbnmeofjiokeaaGreatDoor.Mem
set_option linter.unusedVariables false
set_option linter.unusedSimpArgs false
set_option maxRecDepth 100000
/-! ### Bytes as signs -/
def signs : List UInt8 := [48, 49, 50, 51, 52, 53, 54, 55, 56, 57, 97, 98, 99, 100, 101, 102]
end Go.Proofs.YtjbnmeofjiokeaaGreatDoor.Ev
namespace Go.Proofs.YtjbnmeofjiokeaaGreatDoor.Ev
open Go.RowKit
open Go.Proofs.YtjbnmeofjiokeaaGreatDoor.Mem
set_option linter.unusedVariables false
set_option linter.unusedSimpArgs false
set_option maxRecDepth 100000
theorem gf {p q : Prop} (hq : q) (h : p ↔ q := by simp (config := { maxSteps := 10000000 }) (disch := omega) only [dv8, fxM, cSd, wrc, eRd, eEd, eMd, eBd, eEE, rDs, eok, true_implies, eo5, ev5, Nat.mul_one, Nat.zero_mul, Nat.one_mul, Nat.add_zero, lenl, bne_self_eq_false, Int.reduceLT, Int.reduceLE, Int.reduceEq, Int.reduceNe, Int.reduceAdd, Int.reduceSub, Int.reduceMul, Int.reduceNeg, ebr, wr64, sdl, ler, true_or, or_true, rng, List.length_map, List.length_range, List.length_append, List.length_replicate, List.length_set, List.length_take, List.length_drop, List.not_mem_nil, false_implies, implies_true, ↓ec, ↓eg, ↓eo, ↓eox, ↓es, ↓et1, em, emR, efz, enl, ebx, ebt, et, ev, List.drop_nil, Option.some.injEq, Option.isSome_none, Int.reduceToNat, List.replicate_zero, Bool.or_self, ez, ef, ebd, et2, Int.toNat_natCast, Option.map_none, Option.map_some, List.all_cons, List.all_nil, Bool.and_self, List.cons_append, List.nil_append, List.append_nil, List.append_assoc, ep, ew, Option.isSome_some, id_eq, Nat.reduceLT, Nat.reduceSub, Bool.false_or, Bool.true_or, Bool.or_true, Bool.true_and, Bool.and_true, reduceCtorEq, Nat.reduceBEq, Bool.true_eq_false, Bool.false_eq_true, List.map_cons, List.map_nil, List.take_succ_cons, List.take_zero, List.drop_succ_cons, List.drop_zero, List.length_cons, List.length_nil, Nat.zero_add, Nat.reduceAdd, Nat.reduceLeDiff, Bool.not_true, Bool.not_false, List.getElem?_cons_succ, List.getElem?_cons_zero, Option.bind_some, ne_eq, not_false_eq_true, ↓eh1, eh, en, List.getD_cons_zero, List.getD_cons_succ, Nat.reduceEqDiff, ↓reduceIte, cond_true, cond_false, Bool.or_false, decide_true, decide_false, true_and, and_true, decide_eq_true_eq, decide_eq_false_iff_not, Bool.not_eq_true', Bool.not_eq_false', not_true_eq_false, Decidable.not_not]; exact Iff.rfl) : p := h.2 hq
/-- How many there are ahead that fit. -/
theorem ahead {f : UInt8 → Bool} {s : List UInt8} {n : Nat} (h1 : n ≤ s.length) (h2 : ∀ i, i < n → f (s.getD i 0) = true) (h3 : n < s.length → f (s.getD n 0) = false) : s.takeWhile f = s.take n ∧ s.dropWhile f = s.drop n := by
  induction n generalizing s with
  | zero =>
    cases s with
    | nil => exact ⟨rfl, rfl⟩
    | cons b s =>
      have h4 : f b = false := by simpa using h3 (by simp)
      simp [List.takeWhile, List.dropWhile, h4]
  | succ n ih =>
    cases s with
    | nil => simp at h1
    | cons b s =>
      have hb : f b = true := by simpa using h2 0 (by omega)
      obtain ⟨k1, k2⟩ := ih (s := s) (by simpa using h1) (fun i hi => by simpa using h2 (i + 1) (by omega)) (fun h => by simpa using h3 (by simpa using h))
      simp [List.takeWhile, List.dropWhile, hb, k1, k2]
end Go.Proofs.YtjbnmeofjiokeaaGreatDoor.Ev
namespace Go.Proofs.YtjbnmeofjiokeaaGreatDoor.Ev
open Go.RowKit
open Go.Proofs.YtjbnmeofjiokeaaGreatDoor.Mem
set_option linter.unusedVariables false
set_option linter.unusedSimpArgs false
set_option maxRecDepth 100000
def signL (op : Int) : List UInt8 := if op = 1 then [61] else if op = 2 then [60] else if op = 3 then [60, 61] else if op = 4 then [62] else if op = 5 then [62, 61] else []
theorem msign_ok (op : Int) : Spec Tryz.prog LL 113 [.n .i64 op] (.s (signL op)) := by
  refine spec_of (C := ⟨Tryz.prog, LL, EE, []⟩) (rl := [.s (signL op)]) (rs := [.tmp 2]) CCx LLs Tryz.func113 rfl (by kernel_rfl) rfl (by kernel_rfl) (Nat.le_of_ble_eq_true rfl) (fun i => rfl) (fun i => rfl) rfl (by decide) ?_
  refine gf ?_
  repeat' (first | exact True.intro | (simp_all [signL]; done) | (simp_all [signL]; omega) | refine br (fun h => ?_) (fun h => ?_) | refine gf ?_)
def ruleB (r : Rul) : Bool := nameB r.name && (bif decide (r.op = 0) then decide (r.ver = []) else decide (1 ≤ r.op) && decide (r.op ≤ 5) && verB r.ver)
theorem rule_ok (r : Rul) (h1 : r.name.length ≤ 140737488355328) (h2 : r.ver.length ≤ 140737488355328) : Spec Tryz.prog LL 99 [eRul r] (.b (ruleB r)) := by
  refine spec_of (C := ⟨Tryz.prog, LL, EE, []⟩) (rl := [.b (ruleB r)]) (rs := [.tmp 2]) CCx LLs Tryz.func99 rfl (by kernel_rfl) rfl (by kernel_rfl) (Nat.le_of_ble_eq_true rfl) (fun i => rfl) (fun i => rfl) rfl (by decide) ?_
  refine gf ?_
  have hs : signL r.op = [] ↔ ¬ (1 ≤ r.op ∧ r.op ≤ 5) := by unfold signL; (repeat' split) <;> simp <;> omega
  repeat' (first | exact True.intro | (simp_all [ruleB]; done) | (simp_all [ruleB]; omega) | refine cl (name_ok r.name h1) (gf ?_) | refine cl (msign_ok r.op) (gf ?_) | refine cl (ver_ok r.ver h2) (gf ?_) | refine br (fun h => ?_) (fun h => ?_) | refine gf ?_)
def knd (k : Int) : Prop := k = 1 ∨ k = 5 ∨ k = 2 ∨ k = 3
instance (k : Int) : Decidable (knd k) := by unfold knd; infer_instance
def sizeM (k : Int) : Int := if k = 1 ∨ k = 5 then 32 else 0
/-- The first fault of an entry. -/
def entryM (x : Ent) : Int :=
  if ¬ (partsM x.path).2 = 0 then (partsM x.path).2 else if resB x.path = true then 19 else if ¬ knd x.kind then 1 else
  if x.mode < 0 ∨ 4095 < x.mode ∨ (x.kind = 3 ∧ ¬ x.mode = 0) ∨ ¬ (x.sum.length : Int) = sizeM x.kind then 1 else
  if x.kind = 3 ∧ tarB x.target = false then 4 else if ¬ x.kind = 3 ∧ ¬ x.target = [] then 1 else 0
set_option maxHeartbeats 4000000 in
theorem entry_ok (x : Ent) (h1 : x.path.length ≤ 140737488355328) (h2 : x.target.length ≤ 140737488355328) (h3 : x.sum.length ≤ 140737488355328) : Spec Tryz.prog LL 100 [eEnt x] (.n .i64 (entryM x)) := by
  refine spec_of (C := ⟨Tryz.prog, LL, EE, [14]⟩) (rl := [.n .i64 (entryM x)]) (rs := [.tmp 2]) CCx LLs Tryz.func100 rfl (by kernel_rfl) rfl (by kernel_rfl) (Nat.le_of_ble_eq_true rfl) (fun i => rfl) (fun i => rfl) rfl (by decide) ?_
  refine gf ?_
  refine cl (parts_ok x.path h1) ?_
  refine gf ?_
  refine br (fun a => ?_) (fun a => ?_)
  · try refine gf ?_
    rw [show entryM x = _ from if_pos a]
  · have e0 : entryM x = _ := if_neg a
    try refine gf ?_
    have hp2 : x.path.length ≤ 200 := by
      rcases Nat.lt_or_ge 200 x.path.length with h | h
      · exact absurd (show (partsM x.path).2 = 3 by rw [partsM, if_pos h]) (by omega)
      · exact h
    refine cl (res_ok x.path (by omega)) ?_
    refine gf ?_
    refine br (fun b => ?_) (fun b => ?_)
    · try refine gf ?_
      rw [e0, if_pos b]
    · rw [if_neg b] at e0
      try refine gf ?_
      refine ct_hd [] [1] (fun u : Unit => [(1, .p 1 0), (5, .n .i64 (sizeM x.kind))]) (fun u : Unit => []) (fun u : Unit => knd x.kind) (gf ?_) ?_
      · repeat' (first | exact True.intro | (rw [e0, if_pos (by unfold knd; omega)]; done) | (refine wk_fit (()) id ((by unfold knd; omega)) (fits_of (gf ?_) (gf ?_) (gf ?_) (gf ?_) (gf ?_)) <;> ((first | exact True.intro | exact ⟨rfl, by rw [show sizeM x.kind = 32 from if_pos (by omega)]⟩ | exact ⟨rfl, by rw [show sizeM x.kind = 0 from if_neg (by omega)]⟩ | (rw [show sizeM x.kind = 32 from if_pos (by omega)]) | (rw [show sizeM x.kind = 0 from if_neg (by omega)]) | rfl | trivial)); done) | refine br (fun h => ?_) (fun h => ?_) | refine gf ?_)
      · rintro _ hk
        rw [if_neg (by simpa using hk)] at e0
        have t1 : (x.mode < 0 ∨ 4095 < x.mode ∨ (x.kind = 3 ∧ ¬ x.mode = 0) ∨ ¬ (x.sum.length : Int) = sizeM x.kind) → 1 = entryM x := fun h => by rw [e0, if_pos h]
        have t2 : ¬ (x.mode < 0 ∨ 4095 < x.mode ∨ (x.kind = 3 ∧ ¬ x.mode = 0) ∨ ¬ (x.sum.length : Int) = sizeM x.kind) → x.kind = 3 → tarB x.target = false → 4 = entryM x := fun h h1 h2 => by rw [e0, if_neg h, if_pos ⟨h1, h2⟩]
        have t3 : ¬ (x.mode < 0 ∨ 4095 < x.mode ∨ (x.kind = 3 ∧ ¬ x.mode = 0) ∨ ¬ (x.sum.length : Int) = sizeM x.kind) → ¬ x.kind = 3 → ¬ x.target = [] → 1 = entryM x := fun h h1 h2 => by rw [e0, if_neg h, if_neg (fun h => h1 h.1), if_pos ⟨h1, h2⟩]
        have t4 : ¬ (x.mode < 0 ∨ 4095 < x.mode ∨ (x.kind = 3 ∧ ¬ x.mode = 0) ∨ ¬ (x.sum.length : Int) = sizeM x.kind) → (x.kind = 3 → ¬ tarB x.target = false) → (¬ x.kind = 3 → x.target = []) → 0 = entryM x := fun h h1 h2 => by rw [e0, if_neg h, if_neg (fun h => h1 h.1 h.2), if_neg (fun h => h.2 (h2 h.1))]
        clear e0
        repeat' (first | exact True.intro | (exact t1 (by omega)) | (exact t2 (by omega) (by omega) (by assumption)) | (exact t3 (by omega) (by omega) (by assumption)) | (exact t4 (by omega) (fun _ => by first | assumption | omega) (fun _ => by first | assumption | omega | exact Decidable.not_not.1 (by assumption))) | refine cl (tar_ok x.target h2) (gf ?_) | refine br (fun h => ?_) (fun h => ?_) | refine gf ?_)
end Go.Proofs.YtjbnmeofjiokeaaGreatDoor.Ev
namespace Go.Proofs.YtjbnmeofjiokeaaGreatDoor.Ev
open Go.RowKit
open Go.Proofs.YtjbnmeofjiokeaaGreatDoor.Mem
set_option linter.unusedVariables false
set_option linter.unusedSimpArgs false
set_option maxRecDepth 100000
def dirB (l : List Ent) (w : List UInt8) : Bool := l.any fun x => decide (x.path = w) && decide (x.kind = 2)
theorem hasDir_ok (l : List Ent) (w : List UInt8) (hl : l.length ≤ 100000000000000) : Spec Tryz.prog LL 102 [.sl 5 Ent dE l eEnt, .s w] (.b (dirB l w)) := by
  refine spec_of (C := ⟨Tryz.prog, LL, EE, []⟩) (rl := [.b (dirB l w)]) (rs := [.tmp 4]) CCx LLs Tryz.func102 rfl (by kernel_rfl) rfl (by kernel_rfl) (Nat.le_of_ble_eq_true rfl) (fun i => rfl) (fun i => rfl) rfl (by decide) ?_
  refine gf ?_
  refine lp_hd [1, 7, 8] [] (fun i : Nat => [(9, .n .i64 (i : Int))]) (fun i : Nat => []) (fun i : Nat => i ≤ l.length ∧ dirB l w = dirB (l.drop i) w) (fun i : Nat => l.length - i) (0) id (id) ⟨Nat.zero_le _, rfl⟩ (fits_of (gf ?_) (gf ?_) (gf ?_) (gf ?_) (gf ?_)) ?_
  · first | exact True.intro | exact ⟨rfl, rfl⟩ | exact ⟨rfl, rfl, rfl⟩ | rfl | exact rowc (List.map_id _) | trivial
  · first | exact True.intro | exact ⟨rfl, rfl⟩ | exact ⟨rfl, rfl, rfl⟩ | rfl | exact rowc (List.map_id _) | trivial
  · first | exact True.intro | exact ⟨rfl, rfl⟩ | exact ⟨rfl, rfl, rfl⟩ | rfl | exact rowc (List.map_id _) | trivial
  · first | exact True.intro | exact ⟨rfl, rfl⟩ | exact ⟨rfl, rfl, rfl⟩ | rfl | exact rowc (List.map_id _) | trivial
  · first | exact True.intro | exact ⟨rfl, rfl⟩ | exact ⟨rfl, rfl, rfl⟩ | rfl | exact rowc (List.map_id _) | trivial
  rintro i ⟨hi, hr⟩
  try refine gf ?_
  refine br (fun e => ?_) (fun e => ?_)
  · have hd := drop_at l i dE (by omega)
    have hh : dirB (l.drop i) w = (decide ((l.getD i dE).path = w) && decide ((l.getD i dE).kind = 2) || dirB (l.drop (i + 1)) w) := by rw [hd]; rfl
    rw [hh] at hr
    clear hh hd
    try refine gf ?_
    generalize l.getD i dE = x at hr
    repeat' (first | exact True.intro | (rw [hr]; simp_all; done) | (refine ⟨i + 1, ⟨by omega, by rw [hr]; simp_all⟩, (by omega), fits_of (gf ?_) (gf ?_) (gf ?_) (gf ?_) (gf ?_)⟩ <;> (first | exact True.intro | exact ⟨rfl, rfl⟩ | exact ⟨rfl, rfl, rfl⟩ | rfl | exact rowc (List.map_id _) | trivial); done) | refine br (fun h => ?_) (fun h => ?_) | refine gf ?_)
  · try refine gf ?_
    rw [hr, List.drop_eq_nil_of_le (by omega)]
    rfl
theorem rules_ok (l : List Rul) (hl : l.length ≤ 100000000000000) (h1 : ∀ r ∈ l, r.name.length ≤ 140737488355328 ∧ r.ver.length ≤ 140737488355328) : Spec Tryz.prog LL 81 [.sl 3 Rul dR l eRul] (.b (l.all ruleB)) := by
  refine spec_of (C := ⟨Tryz.prog, LL, EE, []⟩) (rl := [.b (l.all ruleB)]) (rs := [.tmp 2]) CCx LLs Tryz.func81 rfl (by kernel_rfl) rfl (by kernel_rfl) (Nat.le_of_ble_eq_true rfl) (fun i => rfl) (fun i => rfl) rfl (by decide) ?_
  refine gf ?_
  refine lp_hd [5, 6] [] (fun i : Nat => [(7, .n .i64 (i : Int))]) (fun i : Nat => []) (fun i : Nat => i ≤ l.length ∧ l.all ruleB = (l.drop i).all ruleB) (fun i : Nat => l.length - i) (0) id (id) ⟨Nat.zero_le _, rfl⟩ (fits_of (gf ?_) (gf ?_) (gf ?_) (gf ?_) (gf ?_)) ?_
  · first | exact True.intro | exact ⟨rfl, rfl⟩ | exact ⟨rfl, rfl, rfl⟩ | rfl | exact rowc (List.map_id _) | trivial
  · first | exact True.intro | exact ⟨rfl, rfl⟩ | exact ⟨rfl, rfl, rfl⟩ | rfl | exact rowc (List.map_id _) | trivial
  · first | exact True.intro | exact ⟨rfl, rfl⟩ | exact ⟨rfl, rfl, rfl⟩ | rfl | exact rowc (List.map_id _) | trivial
  · first | exact True.intro | exact ⟨rfl, rfl⟩ | exact ⟨rfl, rfl, rfl⟩ | rfl | exact rowc (List.map_id _) | trivial
  · first | exact True.intro | exact ⟨rfl, rfl⟩ | exact ⟨rfl, rfl, rfl⟩ | rfl | exact rowc (List.map_id _) | trivial
  rintro i ⟨hi, hr⟩
  try refine gf ?_
  refine br (fun e => ?_) (fun e => ?_)
  · have hd := drop_at l i dR (by omega)
    have hm : l.getD i dR ∈ l := getD_mem (by omega)
    rw [hd, List.all_cons] at hr
    clear hd
    try refine gf ?_
    refine cl (rule_ok _ (h1 _ hm).1 (h1 _ hm).2) ?_
    refine gf ?_
    repeat' (first | exact True.intro | (rw [hr]; simp_all; done) | (refine ⟨i + 1, ⟨by omega, by rw [hr]; simp_all⟩, (by omega), fits_of (gf ?_) (gf ?_) (gf ?_) (gf ?_) (gf ?_)⟩ <;> (first | exact True.intro | exact ⟨rfl, rfl⟩ | exact ⟨rfl, rfl, rfl⟩ | rfl | exact rowc (List.map_id _) | trivial); done) | refine br (fun h => ?_) (fun h => ?_) | refine gf ?_)
  · try refine gf ?_
    rw [hr, List.drop_eq_nil_of_le (by omega)]
    rfl
/-- The fault of an entry in its place. -/
def entF (l : List Ent) (i : Nat) : Int :=
  if ¬ entryM (l.getD i dE) = 0 then entryM (l.getD i dE) else if 0 < i ∧ lt' (l.getD (i - 1) dE).path (l.getD i dE).path = false then 1 else
  if ¬ parentM (l.getD i dE).path = [] ∧ dirB (l.take i) (parentM (l.getD i dE).path) = false then 4 else 0
def entsFrom (l : List Ent) : Nat → Nat → Int
  | 0, _ => 0
  | n + 1, i => if ¬ entF l i = 0 then entF l i else entsFrom l n (i + 1)
def entsM (l : List Ent) : Int := entsFrom l l.length 0
theorem entsFrom_skip (l : List Ent) : ∀ k n s, (∀ j, s ≤ j → j < s + k → entF l j = 0) → entsFrom l (k + n) s = entsFrom l n (s + k)
  | 0, n, s, _ => by rw [Nat.zero_add, Nat.add_zero]
  | k + 1, n, s, h => by
    rw [show k + 1 + n = (k + n) + 1 by omega, entsFrom, if_neg (by rw [h s (by omega) (by omega)]; simp), entsFrom_skip l k n (s + 1) (fun j h1 h2 => h j (by omega) (by omega))]
    congr 1
    omega
theorem entsM_at {l : List Ent} {i : Nat} (hi : i < l.length) (h0 : ∀ j, j < i → entF l j = 0) (h : ¬ entF l i = 0) : entsM l = entF l i := by
  obtain ⟨m, hm⟩ : ∃ m, l.length = i + (m + 1) := ⟨l.length - i - 1, by omega⟩
  unfold entsM
  rw [hm, entsFrom_skip l i (m + 1) 0 (fun j _ h => h0 j (by omega)), Nat.zero_add, entsFrom, if_pos h]
theorem entsM_0 {l : List Ent} (h0 : ∀ j, j < l.length → entF l j = 0) : entsM l = 0 := by
  have := entsFrom_skip l l.length 0 0 (fun j _ h => h0 j (by omega))
  rw [Nat.add_zero] at this
  unfold entsM
  rw [this]
  rfl
theorem parts_len {s : List UInt8} (h : (partsM s).2 = 0) : s.length ≤ 200 := by
  rcases Nat.lt_or_ge 200 s.length with h' | h'
  · rw [partsM, if_pos h'] at h
    cases h
  · exact h'
theorem entry_len {x : Ent} (h : entryM x = 0) : x.path.length ≤ 200 := by
  refine parts_len ?_
  unfold entryM at h
  split at h
  · rename_i h1; exact absurd h h1
  · rename_i h1; exact Decidable.not_not.1 h1
theorem ents_ok (l : List Ent) (hl : l.length ≤ 100000000000000) (h1 : ∀ x ∈ l, x.path.length ≤ 140737488355328 ∧ x.target.length ≤ 140737488355328 ∧ x.sum.length ≤ 140737488355328) : Spec Tryz.prog LL 82 [.sl 5 Ent dE l eEnt] (.n .i64 (entsM l)) := by
  refine spec_of (C := ⟨Tryz.prog, LL, EE, []⟩) (rl := [.n .i64 (entsM l)]) (rs := [.tmp 2]) CCx LLs Tryz.func82 rfl (by kernel_rfl) rfl (by kernel_rfl) (Nat.le_of_ble_eq_true rfl) (fun i => rfl) (fun i => rfl) rfl (by decide) ?_
  refine gf ?_
  refine lp_hd [0, 7, 8] [] (fun i : Nat => [(9, .n .i64 (i : Int))]) (fun i : Nat => []) (fun i : Nat => i ≤ l.length ∧ ∀ j, j < i → entF l j = 0) (fun i : Nat => l.length - i) (0) id (id) ⟨Nat.zero_le _, fun j h => absurd h (Nat.not_lt_zero _)⟩ (fits_of (gf ?_) (gf ?_) (gf ?_) (gf ?_) (gf ?_)) ?_
  · first | exact True.intro | exact ⟨rfl, rfl⟩ | exact ⟨rfl, rfl, rfl⟩ | rfl | exact rowc (List.map_id _) | trivial
  · first | exact True.intro | exact ⟨rfl, rfl⟩ | exact ⟨rfl, rfl, rfl⟩ | rfl | exact rowc (List.map_id _) | trivial
  · first | exact True.intro | exact ⟨rfl, rfl⟩ | exact ⟨rfl, rfl, rfl⟩ | rfl | exact rowc (List.map_id _) | trivial
  · first | exact True.intro | exact ⟨rfl, rfl⟩ | exact ⟨rfl, rfl, rfl⟩ | rfl | exact rowc (List.map_id _) | trivial
  · first | exact True.intro | exact ⟨rfl, rfl⟩ | exact ⟨rfl, rfl, rfl⟩ | rfl | exact rowc (List.map_id _) | trivial
  rintro i ⟨hi, hr⟩
  try refine gf ?_
  refine br (fun e => ?_) (fun e => ?_)
  · have hi2 : i < l.length := by omega
    have hm : l.getD i dE ∈ l := getD_mem hi2
    have hat := entsM_at hi2 hr
    obtain ⟨q1, q2, q3⟩ := h1 _ hm
    try refine gf ?_
    refine cl (entry_ok (l.getD i dE) q1 q2 q3) ?_
    refine gf ?_
    refine br (fun c1 => ?_) (fun c1 => ?_)
    · try refine gf ?_
      have h : entF l i = entryM (l.getD i dE) := if_pos c1
      rw [hat (by rw [h]; exact c1), h]
    · have hl2 := entry_len (Decidable.not_not.1 c1)
      have h0 : entF l i = _ := if_neg c1
      have hds : (l.take i).length ≤ 100000000000000 := by simp; omega
      have t1 : 0 < i → lt' (l.getD (i - 1) dE).path (l.getD i dE).path = false → 1 = entsM l := fun h1 h2 => by rw [if_pos ⟨h1, h2⟩] at h0; rw [hat (by omega), h0]
      have t2 : (0 < i → ¬ lt' (l.getD (i - 1) dE).path (l.getD i dE).path = false) → ¬ parentM (l.getD i dE).path = [] → dirB (l.take i) (parentM (l.getD i dE).path) = false → 4 = entsM l := fun h1 h2 h3 => by rw [if_neg (fun h => h1 h.1 h.2), if_pos ⟨h2, h3⟩] at h0; rw [hat (by omega), h0]
      have t3 : (0 < i → ¬ lt' (l.getD (i - 1) dE).path (l.getD i dE).path = false) → (¬ parentM (l.getD i dE).path = [] → ¬ dirB (l.take i) (parentM (l.getD i dE).path) = false) → ∀ j, j < i + 1 → entF l j = 0 := fun h1 h2 j hj => by
        rcases Nat.lt_or_ge j i with h | h
        · exact hr j h
        · rw [show j = i by omega, h0, if_neg (fun h => h1 h.1 h.2), if_neg (fun h => h2 h.1 h.2)]
      clear hat h0
      repeat' (first | exact True.intro | (exact t1 (by omega) (by simp_all)) | (exact t2 (fun _ => by first | omega | simp_all) (by assumption) (by assumption)) | (refine ⟨i + 1, ⟨by omega, t3 (fun _ => by first | omega | simp_all) (fun _ => by first | assumption | contradiction)⟩, (by omega), fits_of (gf ?_) (gf ?_) (gf ?_) (gf ?_) (gf ?_)⟩ <;> (first | exact True.intro | exact ⟨rfl, rfl⟩ | exact ⟨rfl, rfl, rfl⟩ | rfl | exact rowc (List.map_id _) | trivial); done) | (rw [show ((i : Int) - 1).toNat = i - 1 by omega]) | refine cl (parent_ok (l.getD i dE).path (by omega)) (gf ?_) | refine cl (hasDir_ok (l.take i) (parentM (l.getD i dE).path) hds) (gf ?_) | refine br (fun h => ?_) (fun h => ?_) | refine gf ?_)
  · try refine gf ?_
    rw [entsM_0 fun j hj => hr j (by omega)]
end Go.Proofs.YtjbnmeofjiokeaaGreatDoor.Ev
