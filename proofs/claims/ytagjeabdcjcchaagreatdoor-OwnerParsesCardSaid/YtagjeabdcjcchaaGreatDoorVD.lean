/- How the document reads words: cuts, modes, signs, rules, entries. -/
import Derived.Test.YtagjeabdcjcchaaGreatDoorVB
import Derived.Test.YtagjeabdcjcchaaGreatDoorVC
set_option linter.all false
namespace Go.Proofs.YtagjeabdcjcchaaGreatDoor.Ev
open Go.RowKit
open Go.Proofs.YtagjeabdcjcchaaGreatDoor.Mem
set_option linter.unusedVariables false
set_option linter.unusedSimpArgs false
set_option maxRecDepth 100000
def odB (b : UInt8) : Bool := decide (48 ≤ b.toNat) && decide (b.toNat ≤ 55)
def octv (s : List UInt8) : Nat := s.foldl (fun n b => 8 * n + (b.toNat - 48)) 0
def rmM (s : List UInt8) : Nat × Bool := if s.all odB = true ∧ s.length ≤ 4 then (octv s, decide (s.length = 4)) else (0, false)
theorem octv_snoc (s : List UInt8) (b : UInt8) : octv (s ++ [b]) = 8 * octv s + (b.toNat - 48) := by
  unfold octv
  rw [List.foldl_append]
  rfl
theorem octv_lt : ∀ (k : Nat) (s : List UInt8), s.length = k → s.all odB = true → octv s < 8 ^ k
  | 0, s, hl, _ => by rw [List.length_eq_zero_iff.1 hl]; decide
  | k + 1, s, hl, h => by
    have hne : s ≠ [] := by rintro rfl; simp at hl
    have e := List.dropLast_concat_getLast hne
    rw [← e, List.all_append, Bool.and_eq_true] at h
    have h1 := octv_lt k s.dropLast (by rw [List.length_dropLast]; omega) h.1
    have h2 := h.2
    simp only [List.all_cons, List.all_nil, Bool.and_true, odB, Bool.and_eq_true, decide_eq_true_eq] at h2
    rw [← e, octv_snoc, Nat.pow_succ]
    omega
theorem rm_mode {s : List UInt8} (h : (rmM s).2 = true) : modeM s = ((rmM s).1, true) := by
  unfold rmM at h ⊢
  split at h
  · rename_i h1
    rw [if_pos h1]
    obtain ⟨h1, h2⟩ := h1
    have h3 : s.length = 4 := by simpa using h
    have hv := octv_lt 4 s h3 h1
    have e : octD 4 (octv s) = s := by
      match s, h3 with
      | [a, b, c, d], _ =>
        simp only [List.all_cons, List.all_nil, Bool.and_true, odB, Bool.and_eq_true, decide_eq_true_eq] at h1
        obtain ⟨⟨a1, a2⟩, ⟨b1, b2⟩, ⟨c1, c2⟩, d1, d2⟩ := h1
        show octD 4 (8 * (8 * (8 * (8 * 0 + (a.toNat - 48)) + (b.toNat - 48)) + (c.toNat - 48)) + (d.toNat - 48)) = _
        simp only [octD, List.nil_append, List.cons_append]
        have k : ∀ (x : UInt8) (n : Nat), n = x.toNat → UInt8.ofNat n = x := fun x n h => by rw [h]; exact UInt8.ofNat_toNat
        rw [k a _ (by omega), k b _ (by omega), k c _ (by omega), k d _ (by omega)]
    have := mode_oct (n := octv s) (by omega)
    rw [e] at this
    exact this
  · cases h
theorem mode_rm {s : List UInt8} (h : (modeM s).2 = true) : (rmM s).2 = true := by
  have e := mode_ln h
  generalize (modeM s).1 = n at e
  subst e
  unfold rmM
  rw [if_pos]
  · simp [octD_len]
  · refine ⟨?_, by rw [octD_len]; omega⟩
    have k : ∀ m : Nat, odB (UInt8.ofNat (48 + m % 8)) = true := fun m => by
      have hm : m % 8 < 8 := Nat.mod_lt _ (by omega)
      generalize m % 8 = q at hm
      have : ∀ q, q < 8 → odB (UInt8.ofNat (48 + q)) = true := by decide
      exact this q hm
    simp only [octD, List.nil_append, List.cons_append, List.all_cons, List.all_nil, k, Bool.and_self]
theorem by_od {s : List UInt8} {i : Nat} (h : i < s.length) : odB (s.getD i 0) = true ↔ 48 ≤ by' s i ∧ by' s i ≤ 55 := by
  unfold odB by'
  simp only [Bool.and_eq_true, decide_eq_true_eq]
theorem rrm_ok (s : List UInt8) (hs : s.length ≤ 1000000000) : Spec Tryz.prog LL 149 [.s s] (.tp [.n .i64 ((rmM s).1 : Int), .b (rmM s).2]) := by
  refine spec_of (C := ⟨Tryz.prog, LL, EE, []⟩) (rl := [.n .i64 ((rmM s).1 : Int), .b (rmM s).2]) (rs := [.tmp 2, .tmp 3]) CCx LLs Tryz.func149 rfl (by kernel_rfl) rfl (by kernel_rfl) (Nat.le_of_ble_eq_true rfl) (fun i => rfl) (fun i => by first | rfl | exact (Bool.or_false _).trans (eSd_men _ _)) rfl (by decide) ?_
  refine gr ?_
  refine lp_hd [0] [] (fun i : Nat => [(4, .n .i64 ((octv (s.take i) : Nat) : Int)), (5, .n .i64 (i : Int))]) (fun i : Nat => []) (fun i : Nat => i ≤ s.length ∧ i ≤ 4 ∧ (s.take i).all odB = true) (fun i : Nat => s.length - i) (0) id (id) ⟨Nat.zero_le _, by omega, rfl⟩ (fits_of (gr ?_) (gr ?_) (gr ?_) (gr ?_) (gr ?_)) ?_
  · first | exact True.intro | exact ⟨rfl, rfl⟩ | exact ⟨rfl, rfl, rfl⟩ | rfl | exact rowc (List.map_id _) | trivial
  · first | exact True.intro | exact ⟨rfl, rfl⟩ | exact ⟨rfl, rfl, rfl⟩ | rfl | exact rowc (List.map_id _) | trivial
  · first | exact True.intro | exact ⟨rfl, rfl⟩ | exact ⟨rfl, rfl, rfl⟩ | rfl | exact rowc (List.map_id _) | trivial
  · first | exact True.intro | exact ⟨rfl, rfl⟩ | exact ⟨rfl, rfl, rfl⟩ | rfl | exact rowc (List.map_id _) | trivial
  · first | exact True.intro | exact ⟨rfl, rfl⟩ | exact ⟨rfl, rfl, rfl⟩ | rfl | exact rowc (List.map_id _) | trivial
  rintro i ⟨hi, h4, hall⟩
  have hv := octv_lt i (s.take i) (by rw [List.length_take]; omega) hall
  have hv2 : (8 : Nat) ^ i ≤ 8 ^ 4 := Nat.pow_le_pow_right (by omega) h4
  try refine gr ?_
  refine br (fun b => ?_) (fun b => ?_)
  · have hb := by_lt s i
    have hod := by_od (show i < s.length by omega)
    have htk := take_at s i 0 (by omega)
    have no : (¬ (48 ≤ by' s i ∧ by' s i ≤ 55) ∨ i = 4) → rmM s = (0, false) := fun h => by
      unfold rmM
      rw [if_neg]
      rintro ⟨h1, h2⟩
      rcases h with h | h
      · exact h (hod.1 (List.all_eq_true.1 h1 _ (getD_mem (by omega))))
      · omega
    have w8 : ∀ x : Int, 0 ≤ x → x < 256 → IntKind.u8.wrap x = x := fun x h1 h2 => by simp [IntKind.wrap, IntKind.bits, IntKind.signed]; omega
    have nx : 48 ≤ by' s i → by' s i ≤ 55 → (s.take (i + 1)).all odB = true ∧ ((octv (s.take (i + 1)) : Nat) : Int) = 8 * ((octv (s.take i) : Nat) : Int) + ((by' s i : Nat) - 48 : Int) := fun h1 h2 => by
      rw [htk, List.all_append, hall, octv_snoc]
      refine ⟨by rw [List.all_cons, hod.2 ⟨h1, h2⟩]; rfl, ?_⟩
      have : (s.getD i 0).toNat = by' s i := rfl
      omega
    repeat' (first | exact True.intro | (rw [no (by omega)]; exact ⟨rfl, rfl⟩) | (exfalso; omega) | refine br (fun h => ?_) (fun h => ?_) | refine gr ?_)
    rw [w8 _ (by omega) (by omega)]
    refine ⟨i + 1, ⟨by omega, by omega, (nx (by omega) (by omega)).1⟩, (by omega), fits_of (gr ?_) (gr ?_) (gr ?_) (gr ?_) (gr ?_)⟩
    · first | exact True.intro | exact ⟨rfl, rfl⟩ | exact ⟨rfl, rfl, rfl⟩ | rfl | exact rowc (List.map_id _) | trivial
    · (rw [(nx (by omega) (by omega)).2]; exact ⟨rfl, rfl⟩)
    · first | exact True.intro | exact ⟨rfl, rfl⟩ | exact ⟨rfl, rfl, rfl⟩ | rfl | exact rowc (List.map_id _) | trivial
    · first | exact True.intro | exact ⟨rfl, rfl⟩ | exact ⟨rfl, rfl, rfl⟩ | rfl | exact rowc (List.map_id _) | trivial
    · first | exact True.intro | exact ⟨rfl, rfl⟩ | exact ⟨rfl, rfl, rfl⟩ | rfl | exact rowc (List.map_id _) | trivial
  · try refine gr ?_
    rw [List.take_of_length_le (by omega)] at hall ⊢
    rw [show rmM s = (octv s, decide (s.length = 4)) from if_pos ⟨hall, by omega⟩]
    refine ⟨rfl, ?_⟩
    exact decide_eq_decide.2 (by omega)
end Go.Proofs.YtagjeabdcjcchaaGreatDoor.Ev
namespace Go.Proofs.YtagjeabdcjcchaaGreatDoor.Ev
open Go.RowKit
open Go.Proofs.YtagjeabdcjcchaaGreatDoor.Mem
set_option linter.unusedVariables false
set_option linter.unusedSimpArgs false
set_option maxRecDepth 100000
theorem gd_drop (ws : List (List UInt8)) (i : Nat) : (ws.drop 1).getD i [] = ws.getD (i + 1) [] := by
  simp only [List.getD_eq_getElem?_getD, List.getElem?_drop, Nat.add_comm]
theorem rrdRule_ok (ws : List (List UInt8)) (h0 : 0 < ws.length) : Spec Tryz.prog LL 110 [.sl 1 (List UInt8) [] ws .s] (.tp [eRul (rdRule (ws.drop 1)).1, .b (rdRule (ws.drop 1)).2]) := by
  refine spec_of (C := ⟨Tryz.prog, LL, EE, []⟩) (rl := [eRul (rdRule (ws.drop 1)).1, .b (rdRule (ws.drop 1)).2]) (rs := [.cell 2 78, .tmp 3]) CCx LLs Tryz.func110 rfl (by kernel_rfl) rfl (by kernel_rfl) (Nat.le_of_ble_eq_true rfl) (fun i => rfl) (fun i => by first | rfl | exact (Bool.or_false _).trans (eSd_men _ _)) rfl (by decide) ?_
  refine gr ?_
  have e1 : ws.length = 2 → rdRule (ws.drop 1) = (⟨ws.getD 1 [], 0, []⟩, true) := fun h => by
    rw [rdRule, if_pos (by rw [List.length_drop]; omega), gd_drop]
  have e2 : ws.length = 4 → ¬ opF (ws.getD 2 []) 5 1 = 0 → rdRule (ws.drop 1) = (⟨ws.getD 1 [], opF (ws.getD 2 []) 5 1, ws.getD 3 []⟩, true) := fun h h1 => by
    rw [rdRule, if_neg (by rw [List.length_drop]; omega), if_pos ⟨by rw [List.length_drop]; omega, by rw [gd_drop]; exact h1⟩, gd_drop, gd_drop, gd_drop]
  have e3 : ¬ ws.length = 2 → (ws.length = 4 → opF (ws.getD 2 []) 5 1 = 0) → rdRule (ws.drop 1) = (dR, false) := fun h h1 => by
    rw [rdRule, if_neg (by rw [List.length_drop]; omega), if_neg]
    rintro ⟨h2, h3⟩
    rw [List.length_drop] at h2
    rw [gd_drop] at h3
    exact h3 (h1 (by omega))
  refine br (fun a => ?_) (fun a => ?_)
  · try refine gr ?_
    rw [e1 (by omega)]
    exact ⟨le_refl _, rfl⟩
  · try refine gr ?_
    refine br (fun b => ?_) (fun b => ?_)
    · try refine gr ?_
      refine lp_hd [0, 2] [2] (fun o : Nat => [(4, .n .i64 (o : Int))]) (fun o : Nat => []) (fun o : Nat => 1 ≤ o ∧ o ≤ 6 ∧ opF (ws.getD 2 []) 5 1 = opF (ws.getD 2 []) (6 - o) o) (fun o : Nat => 6 - o) (1) id (id) ⟨by omega, by omega, rfl⟩ (fits_of (gr ?_) (gr ?_) (gr ?_) (gr ?_) (gr ?_)) ?_
      · first | exact True.intro | exact ⟨rfl, rfl⟩ | exact ⟨rfl, rfl, rfl⟩ | rfl | exact rowc (List.map_id _) | trivial
      · first | exact True.intro | exact ⟨rfl, rfl⟩ | exact ⟨rfl, rfl, rfl⟩ | rfl | exact rowc (List.map_id _) | trivial
      · first | exact True.intro | exact ⟨rfl, rfl⟩ | exact ⟨rfl, rfl, rfl⟩ | rfl | exact rowc (List.map_id _) | trivial
      · first | exact True.intro | exact ⟨rfl, rfl⟩ | exact ⟨rfl, rfl, rfl⟩ | rfl | exact rowc (List.map_id _) | trivial
      · first | exact True.intro | exact ⟨rfl, rfl⟩ | exact ⟨rfl, rfl, rfl⟩ | rfl | exact rowc (List.map_id _) | trivial
      rintro o ⟨h1, h2, hr⟩
      try refine gr ?_
      refine br (fun e => ?_) (fun e => ?_)
      · rw [show opF (ws.getD 2 []) (6 - o) o = if signL (o : Int) = ws.getD 2 [] then o else opF (ws.getD 2 []) (5 - o) (o + 1) by rw [show 6 - o = (5 - o) + 1 by omega]; rfl] at hr
        try refine gr ?_
        refine cd (rop_ok (o : Int) (by omega) (by omega)) ?_
        refine gr ?_
        refine br (fun c => ?_) (fun c => ?_)
        · try refine gr ?_
          rw [if_pos c] at hr
          rw [e2 (by omega) (by omega), hr]
          exact ⟨le_refl _, rfl⟩
        · rw [if_neg c] at hr
          try refine gr ?_
          refine ⟨o + 1, ⟨by omega, by omega, by rw [hr, show 6 - (o + 1) = 5 - o by omega]⟩, (by omega), fits_of (gr ?_) (gr ?_) (gr ?_) (gr ?_) (gr ?_)⟩
          · first | exact True.intro | exact ⟨rfl, rfl⟩ | exact ⟨rfl, rfl, rfl⟩ | rfl | exact rowc (List.map_id _) | trivial
          · first | exact True.intro | exact ⟨rfl, rfl⟩ | exact ⟨rfl, rfl, rfl⟩ | rfl | exact rowc (List.map_id _) | trivial
          · first | exact True.intro | exact ⟨rfl, rfl⟩ | exact ⟨rfl, rfl, rfl⟩ | rfl | exact rowc (List.map_id _) | trivial
          · first | exact True.intro | exact ⟨rfl, rfl⟩ | exact ⟨rfl, rfl, rfl⟩ | rfl | exact rowc (List.map_id _) | trivial
          · first | exact True.intro | exact ⟨rfl, rfl⟩ | exact ⟨rfl, rfl, rfl⟩ | rfl | exact rowc (List.map_id _) | trivial
      · rw [show 6 - o = 0 by omega, opF] at hr
        try refine gr ?_
        rw [e3 (by omega) (fun _ => hr)]
        exact ⟨le_refl _, rfl⟩
    · try refine gr ?_
      rw [e3 (by omega) (fun h => by omega)]
      exact ⟨le_refl _, rfl⟩
theorem rdigit_ok (c : UInt8) : Spec Tryz.prog LL 189 [.n .u8 (c.toNat : Int)] (.tp [.n .u8 (if hlf c < 0 then 0 else hlf c), .b (decide (0 ≤ hlf c))]) := by
  refine spec_of (C := ⟨Tryz.prog, LL, EE, []⟩) (rl := [.n .u8 (if hlf c < 0 then 0 else hlf c), .b (decide (0 ≤ hlf c))]) (rs := [.tmp 2, .tmp 3]) CCx LLs Tryz.func189 rfl (by kernel_rfl) rfl (by kernel_rfl) (Nat.le_of_ble_eq_true rfl) (fun i => rfl) (fun i => by first | rfl | exact (Bool.or_false _).trans (eSd_men _ _)) rfl (by decide) ?_
  refine gr ?_
  have hc : c.toNat < 256 := c.toNat_lt
  have w8 : ∀ x : Int, 0 ≤ x → x < 256 → IntKind.u8.wrap x = x := fun x h1 h2 => by simp [IntKind.wrap, IntKind.bits, IntKind.signed]; omega
  have k1 : 48 ≤ c.toNat ∧ c.toNat ≤ 57 → hlf c = (c.toNat : Int) - 48 := fun h => if_pos h
  have k2 : ¬ (48 ≤ c.toNat ∧ c.toNat ≤ 57) → 97 ≤ c.toNat ∧ c.toNat ≤ 102 → hlf c = (c.toNat : Int) - 87 := fun h h2 => by rw [hlf, if_neg h, if_pos h2]
  have k3 : ¬ (48 ≤ c.toNat ∧ c.toNat ≤ 57) → ¬ (97 ≤ c.toNat ∧ c.toNat ≤ 102) → hlf c = -1 := fun h h2 => by rw [hlf, if_neg h, if_neg h2]
  repeat' (first | exact True.intro | (rw [k1 (by omega), if_neg (by omega), decide_eq_true (by omega), w8 _ (by omega) (by omega)]; exact ⟨rfl, rfl⟩) | (rw [k2 (by omega) (by omega), if_neg (by omega), decide_eq_true (by omega), w8 ((c.toNat : Int) - 97) (by omega) (by omega), w8 _ (by omega) (by omega)]; exact ⟨by congr 1; omega, rfl⟩) | (rw [k3 (by omega) (by omega)]; rfl) | (exfalso; omega) | refine br (fun h => ?_) (fun h => ?_) | refine gr ?_)
theorem orr2 : ∀ (a b : UInt8), 0 ≤ hlf a → 0 ≤ hlf b → IntKind.u8.wrap (IntKind.u8.wrap (16 * hlf a) + hlf b) = (((UInt8.ofNat (16 * (hlf a).toNat + (hlf b).toNat)).toNat : Nat) : Int) := fun a b ha hb => by
  obtain ⟨x, hx⟩ : ∃ x : Fin 16, hlf a = (x.val : Nat) := ⟨⟨(hlf a).toNat, by have := hlf_rng a; omega⟩, by dsimp only; omega⟩
  obtain ⟨y, hy⟩ : ∃ y : Fin 16, hlf b = (y.val : Nat) := ⟨⟨(hlf b).toNat, by have := hlf_rng b; omega⟩, by dsimp only; omega⟩
  rw [hx, hy]
  have key : ∀ x y : Fin 16, IntKind.u8.wrap (IntKind.u8.wrap (16 * ((x.val : Nat) : Int)) + ((y.val : Nat) : Int)) = (((UInt8.ofNat (16 * ((x.val : Nat) : Int).toNat + ((y.val : Nat) : Int).toNat)).toNat : Nat) : Int) := by decide +kernel
  exact key x y
end Go.Proofs.YtagjeabdcjcchaaGreatDoor.Ev
namespace Go.Proofs.YtagjeabdcjcchaaGreatDoor.Ev
open Go.RowKit
open Go.Proofs.YtagjeabdcjcchaaGreatDoor.Mem
set_option linter.unusedVariables false
set_option linter.unusedSimpArgs false
set_option maxRecDepth 100000
theorem dv2 : (∀ a : Nat, (a : Int).tmod 2 = ((a % 2 : Nat) : Int)) := fun a => rfl
theorem gq2 {p q : Prop} (hq : q) (h : p ↔ q := by simp (config := { maxSteps := 10000000 }) (disch := omega) only [dv2, dv8', evw, eSdD, fxM, cSd, wrc, eRd, eEd, eMd, eBd, eEE, rDs, eok, true_implies, eo5, ev5, Nat.mul_one, Nat.zero_mul, Nat.one_mul, Nat.add_zero, lenl, bne_self_eq_false, Int.reduceLT, Int.reduceLE, Int.reduceEq, Int.reduceNe, Int.reduceAdd, Int.reduceSub, Int.reduceMul, Int.reduceNeg, ebr, wr64, sdl, ler, true_or, or_true, rng, List.length_map, List.length_range, List.length_append, List.length_replicate, List.length_set, List.length_take, List.length_drop, List.not_mem_nil, false_implies, implies_true, ↓ec, ↓eg, ↓eo, ↓eox, ↓es, ↓et1, em, emR, efz, enl, ebx, ebt, et, ev, List.drop_nil, Option.some.injEq, Option.isSome_none, Int.reduceToNat, List.replicate_zero, Bool.or_self, ez, ef, ebd, et2, Int.toNat_natCast, Option.map_none, Option.map_some, List.all_cons, List.all_nil, Bool.and_self, List.cons_append, List.nil_append, List.append_nil, List.append_assoc, ep, ew, Option.isSome_some, id_eq, Nat.reduceLT, Nat.reduceSub, Bool.false_or, Bool.true_or, Bool.or_true, Bool.true_and, Bool.and_true, reduceCtorEq, Nat.reduceBEq, Bool.true_eq_false, Bool.false_eq_true, List.map_cons, List.map_nil, List.take_succ_cons, List.take_zero, List.drop_succ_cons, List.drop_zero, List.length_cons, List.length_nil, Nat.zero_add, Nat.reduceAdd, Nat.reduceLeDiff, Bool.not_true, Bool.not_false, List.getElem?_cons_succ, List.getElem?_cons_zero, Option.bind_some, ne_eq, not_false_eq_true, ↓eh1, eh, en, List.getD_cons_zero, List.getD_cons_succ, Nat.reduceEqDiff, ↓reduceIte, cond_true, cond_false, Bool.or_false, decide_true, decide_false, true_and, and_true, decide_eq_true_eq, decide_eq_false_iff_not, Bool.not_eq_true', Bool.not_eq_false', not_true_eq_false, Decidable.not_not]; exact Iff.rfl) : p := h.2 hq
theorem runhex_ok (s : List UInt8) (hs : s.length ≤ 2000000) : Spec Tryz.prog LL 150 [.s s] (.tp [.s (unhexL s).1, .b (unhexL s).2]) := by
  refine spec_of (C := ⟨Tryz.prog, LL, EE, []⟩) (rl := [.s (unhexL s).1, .b (unhexL s).2]) (rs := [.tmp 2, .tmp 3]) CCx LLs Tryz.func150 rfl (by kernel_rfl) rfl (by kernel_rfl) (Nat.le_of_ble_eq_true rfl) (fun i => rfl) (fun i => by first | rfl | exact (Bool.or_false _).trans (eSd_men _ _)) rfl (by decide) ?_
  refine gq2 ?_
  refine br (fun a => ?_) (fun a => ?_)
  · try refine gq2 ?_
    rw [unhexL_odd s (by omega)]
    exact ⟨rfl, rfl⟩
  · try refine gq2 ?_
    refine lp_hd [0] [] (fun x : Nat × List UInt8 => [(4, .s x.2), (5, .n .i64 ((2 * x.1 : Nat) : Int))]) (fun x : Nat × List UInt8 => []) (fun x : Nat × List UInt8 => 2 * x.1 ≤ s.length ∧ x.2.length = x.1 ∧ unhexL s = (bif (unhexL (s.drop (2 * x.1))).2 then (x.2 ++ (unhexL (s.drop (2 * x.1))).1, true) else ([], false))) (fun x : Nat × List UInt8 => s.length - 2 * x.1) ((0, [])) id (id) ⟨by simp, rfl, by dsimp only; rw [Nat.mul_zero, List.drop_zero, List.nil_append]; exact unhexL_self s⟩ (fits_of (gq2 ?_) (gq2 ?_) (gq2 ?_) (gq2 ?_) (gq2 ?_)) ?_
    · first | exact True.intro | exact ⟨rfl, rfl⟩ | exact ⟨rfl, rfl, rfl⟩ | rfl | exact rowc (List.map_id _) | trivial
    · first | exact True.intro | exact ⟨rfl, rfl⟩ | exact ⟨rfl, rfl, rfl⟩ | rfl | exact rowc (List.map_id _) | trivial
    · first | exact True.intro | exact ⟨rfl, rfl⟩ | exact ⟨rfl, rfl, rfl⟩ | rfl | exact rowc (List.map_id _) | trivial
    · first | exact True.intro | exact ⟨rfl, rfl⟩ | exact ⟨rfl, rfl, rfl⟩ | rfl | exact rowc (List.map_id _) | trivial
    · first | exact True.intro | exact ⟨rfl, rfl⟩ | exact ⟨rfl, rfl, rfl⟩ | rfl | exact rowc (List.map_id _) | trivial
    rintro ⟨k, acc⟩ ⟨hk, hl, hu⟩
    dsimp only at hk hl hu ⊢
    try refine gq2 ?_
    refine br (fun e => ?_) (fun e => ?_)
    · have hd : s.drop (2 * k) = s.getD (2 * k) 0 :: s.getD (2 * k + 1) 0 :: s.drop (2 * (k + 1)) := by
        rw [drop_at s (2 * k) 0 (by omega), drop_at s (2 * k + 1) 0 (by omega)]
        rfl
      rw [hd] at hu
      try refine gq2 ?_
      refine cl (rdigit_ok (s.getD (2 * k) 0)) ?_
      refine gq2 ?_
      refine cl (rdigit_ok (s.getD (2 * k + 1) 0)) ?_
      refine gq2 ?_
      generalize s.getD (2 * k) 0 = x at hu hd
      generalize s.getD (2 * k + 1) 0 = y at hu hd
      have no : hlf x < 0 ∨ hlf y < 0 → unhexL s = ([], false) := fun h => by rw [hu, unhexL, if_pos h]; rfl
      refine br (fun p1 => ?_) (fun p1 => ?_)
      · try refine gq2 ?_
        refine br (fun p2 => ?_) (fun p2 => ?_)
        · try refine gq2 ?_
          rw [no (.inr (by omega))]
          exact ⟨rfl, rfl⟩
        · try refine gq2 ?_
          rw [if_neg (by omega), if_neg (by omega)]
          try refine gq2 ?_
          refine .inr ?_
          rw [orr2 x y (by omega) (by omega)]
          refine cvB (t := 5) (by kernel_rfl) (by kernel_rfl) (by kernel_rfl) ?_
          have hq : unhexL (x :: y :: s.drop (2 * (k + 1))) = (bif (unhexL (s.drop (2 * (k + 1)))).2 then (UInt8.ofNat (16 * (hlf x).toNat + (hlf y).toNat) :: (unhexL (s.drop (2 * (k + 1)))).1, true) else ([], false)) := by
            rw [unhexL, if_neg (by omega)]
          rw [cBd]
          try refine gq2 ?_
          refine ⟨(k + 1, acc ++ [UInt8.ofNat (16 * (hlf x).toNat + (hlf y).toNat)]), ⟨by dsimp only; omega, by simp [hl], by rw [hu, hq]; dsimp only; cases (unhexL (s.drop (2 * (k + 1)))).2 <;> simp⟩, (by dsimp only; omega), fits_of (gq2 ?_) (gq2 ?_) (gq2 ?_) (gq2 ?_) (gq2 ?_)⟩
          · first | exact True.intro | exact ⟨rfl, rfl⟩ | exact ⟨rfl, rfl, rfl⟩ | rfl | exact rowc (List.map_id _) | trivial
          · (rw [show ((2 * k : Nat) : Int) + 2 = ((2 * (k + 1) : Nat) : Int) by omega])
          · first | exact True.intro | exact ⟨rfl, rfl⟩ | exact ⟨rfl, rfl, rfl⟩ | rfl | exact rowc (List.map_id _) | trivial
          · first | exact True.intro | exact ⟨rfl, rfl⟩ | exact ⟨rfl, rfl, rfl⟩ | rfl | exact rowc (List.map_id _) | trivial
          · first | exact True.intro | exact ⟨rfl, rfl⟩ | exact ⟨rfl, rfl, rfl⟩ | rfl | exact rowc (List.map_id _) | trivial
      · try refine gq2 ?_
        rw [no (.inl (by omega))]
        exact ⟨rfl, rfl⟩
    · try refine gq2 ?_
      rw [List.drop_eq_nil_of_le (by omega)] at hu
      rw [hu]
      simp [unhexL]
end Go.Proofs.YtagjeabdcjcchaaGreatDoor.Ev
namespace Go.Proofs.YtagjeabdcjcchaaGreatDoor.Ev
open Go.RowKit
open Go.Proofs.YtagjeabdcjcchaaGreatDoor.Mem
set_option linter.unusedVariables false
set_option linter.unusedSimpArgs false
set_option maxRecDepth 100000
def rEnt (ws : List (List UInt8)) : Ent × Bool :=
  if (ws.getD 0 [] = wFile ∨ ws.getD 0 [] = wConf) ∧ ws.length = 4 then (⟨if ws.getD 0 [] = wConf then 5 else 1, (rmM (ws.getD 1 [])).1, (unhexL (ws.getD 2 [])).1, ws.getD 3 [], []⟩, (rmM (ws.getD 1 [])).2 && (unhexL (ws.getD 2 [])).2) else
  if ws.getD 0 [] = wDir ∧ ws.length = 3 then (⟨2, (rmM (ws.getD 1 [])).1, [], ws.getD 2 [], []⟩, (rmM (ws.getD 1 [])).2) else
  if ws.getD 0 [] = wLink ∧ ws.length = 3 then (⟨3, 0, [], ws.getD 1 [], ws.getD 2 []⟩, true) else (dE, false)
def kwd (w : List UInt8) : Prop := w = wFile ∨ w = wConf ∨ w = wDir ∨ w = wLink
theorem wne : wFile ≠ wLink ∧ wFile ≠ wDir ∧ wConf ≠ wLink ∧ wConf ≠ wDir ∧ wDir ≠ wLink ∧ wFile ≠ wConf := by decide
theorem rEnt_yes {ws : List (List UInt8)} (h : (rEnt ws).2 = true) : thingM ws = ((rEnt ws).1, true) ∧ kwd (ws.getD 0 []) := by
  obtain ⟨n1, n2, n3, n4, n5, n6⟩ := wne
  unfold rEnt at h ⊢
  by_cases c1 : (ws.getD 0 [] = wFile ∨ ws.getD 0 [] = wConf) ∧ ws.length = 4
  · rw [if_pos c1] at h ⊢
    rw [Bool.and_eq_true] at h
    obtain ⟨c1, c2⟩ := c1
    refine ⟨?_, by unfold kwd; rcases c1 with c | c <;> rw [c] <;> decide⟩
    unfold thingM
    rw [if_neg (by rcases c1 with c | c <;> rw [c] <;> assumption), if_neg (by rcases c1 with c | c <;> rw [c] <;> assumption), if_neg (by omega), rm_mode h.1, h.2]
    rfl
  rw [if_neg c1] at h ⊢
  by_cases c2 : ws.getD 0 [] = wDir ∧ ws.length = 3
  · rw [if_pos c2] at h ⊢
    obtain ⟨c2, c3⟩ := c2
    refine ⟨?_, by unfold kwd; rw [c2]; decide⟩
    unfold thingM
    rw [if_neg (by rw [c2]; exact n5), if_pos c2, if_neg (by omega), rm_mode h]
  rw [if_neg c2] at h ⊢
  by_cases c3 : ws.getD 0 [] = wLink ∧ ws.length = 3
  · rw [if_pos c3] at h ⊢
    obtain ⟨c3, c4⟩ := c3
    refine ⟨?_, by unfold kwd; rw [c3]; decide⟩
    unfold thingM
    rw [if_pos c3, if_neg (by omega)]
  rw [if_neg c3] at h
  cases h
theorem rEnt_no {ws : List (List UInt8)} (hk : kwd (ws.getD 0 [])) (h : (thingM ws).2 = true) : (rEnt ws).2 = true := by
  obtain ⟨n1, n2, n3, n4, n5, n6⟩ := wne
  unfold thingM at h
  unfold rEnt
  by_cases c1 : ws.getD 0 [] = wLink
  · rw [if_pos c1] at h
    split at h
    · cases h
    · rw [if_neg (by rintro ⟨c | c, _⟩ <;> rw [c1] at c <;> first | exact n1 c.symm | exact n3 c.symm), if_neg (by rintro ⟨c, _⟩; rw [c1] at c; exact n5 c.symm), if_pos ⟨c1, by omega⟩]
  rw [if_neg c1] at h
  by_cases c2 : ws.getD 0 [] = wDir
  · rw [if_pos c2] at h
    split at h
    · cases h
    · rw [if_neg (by rintro ⟨c | c, _⟩ <;> rw [c2] at c <;> first | exact n2 c.symm | exact n4 c.symm), if_pos ⟨c2, by omega⟩]
      exact mode_rm h
  rw [if_neg c2] at h
  split at h
  · cases h
  · rename_i c3
    rw [if_pos ⟨by rcases hk with c | c | c | c <;> simp_all, by omega⟩]
    dsimp only at h ⊢
    rw [Bool.and_eq_true] at h ⊢
    exact ⟨mode_rm h.1, h.2⟩
/-- What a line of words says, by the document's reading. -/
theorem readM_th {l : List UInt8} (h : (rEnt (sp 32 l)).2 = true) : readM l = .th (rEnt (sp 32 l)).1 := by
  obtain ⟨h1, h2⟩ := rEnt_yes h
  unfold readM
  rw [if_neg (by rcases h2 with c | c | c | c <;> rw [c] <;> decide), if_pos ⟨h2, by rw [h1]⟩, h1]
theorem readM_no {l : List UInt8} (h : (rEnt (sp 32 l)).2 = false) (h1 : ¬ (sp 32 l).getD 0 [] = wNeeds) (h2 : ¬ (sp 32 l).getD 0 [] = wClash) : readM l = .no := by
  unfold readM
  rw [if_neg (by rintro (c | c) <;> contradiction), if_neg]
  rintro ⟨h3, h4⟩
  rw [rEnt_no h3 h4] at h
  cases h
theorem readM_rule {l : List UInt8} (h : (sp 32 l).getD 0 [] = wNeeds ∨ (sp 32 l).getD 0 [] = wClash) (h2 : (rdRule ((sp 32 l).drop 1)).2 = false) : readM l = .no := by
  unfold readM
  rw [if_pos h, if_pos h2]
theorem readM_nd {l : List UInt8} (h : (sp 32 l).getD 0 [] = wNeeds) (h2 : (rdRule ((sp 32 l).drop 1)).2 = true) : readM l = .nd (rdRule ((sp 32 l).drop 1)).1 := by
  unfold readM
  rw [if_pos (.inl h), if_neg (by rw [h2]; decide), if_pos h]
theorem readM_cl {l : List UInt8} (h : (sp 32 l).getD 0 [] = wClash) (h2 : (rdRule ((sp 32 l).drop 1)).2 = true) : readM l = .cl (rdRule ((sp 32 l).drop 1)).1 := by
  unfold readM
  rw [if_pos (.inr h), if_neg (by rw [h2]; decide), if_neg (by rw [h]; decide)]
set_option maxHeartbeats 4000000 in
theorem rrdEnt_ok (ws : List (List UInt8)) (h0 : 0 < ws.length) (h1 : (ws.getD 1 []).length ≤ 1000000) (h2 : (ws.getD 2 []).length ≤ 1000000) : Spec Tryz.prog LL 111 [.sl 1 (List UInt8) [] ws .s] (.tp [eEnt (rEnt ws).1, .b (rEnt ws).2]) := by
  refine spec_of (C := ⟨Tryz.prog, LL, EE, []⟩) (rl := [eEnt (rEnt ws).1, .b (rEnt ws).2]) (rs := [.cell 2 34, .tmp 3]) CCx LLs Tryz.func111 rfl (by kernel_rfl) rfl (by kernel_rfl) (Nat.le_of_ble_eq_true rfl) (fun i => rfl) (fun i => by first | rfl | exact (Bool.or_false _).trans (eSd_men _ _)) rfl (by decide) ?_
  refine gr ?_
  have e1 : ws.getD 0 [] = [102, 105, 108, 101] → ws.length = 4 → rEnt ws = (⟨1, (rmM (ws.getD 1 [])).1, (unhexL (ws.getD 2 [])).1, ws.getD 3 [], []⟩, (rmM (ws.getD 1 [])).2 && (unhexL (ws.getD 2 [])).2) := fun a b => by
    have c : ws.getD 0 [] = wFile := a
    rw [rEnt, if_pos ⟨.inl c, b⟩, if_neg (by rw [c]; exact wne.2.2.2.2.2)]
  have e5 : ws.getD 0 [] = [99, 111, 110, 102] → ws.length = 4 → rEnt ws = (⟨5, (rmM (ws.getD 1 [])).1, (unhexL (ws.getD 2 [])).1, ws.getD 3 [], []⟩, (rmM (ws.getD 1 [])).2 && (unhexL (ws.getD 2 [])).2) := fun a b => by
    have c : ws.getD 0 [] = wConf := a
    rw [rEnt, if_pos ⟨.inr c, b⟩, if_pos c]
  have e2 : ws.getD 0 [] = [100, 105, 114] → ws.length = 3 → rEnt ws = (⟨2, (rmM (ws.getD 1 [])).1, [], ws.getD 2 [], []⟩, (rmM (ws.getD 1 [])).2) := fun a b => by
    rw [rEnt, if_neg (by rintro ⟨_, h⟩; omega), if_pos ⟨a, b⟩]
  have e3 : ws.getD 0 [] = [108, 105, 110, 107] → ws.length = 3 → rEnt ws = (⟨3, 0, [], ws.getD 1 [], ws.getD 2 []⟩, true) := fun a b => by
    have c : ws.getD 0 [] = wLink := a
    rw [rEnt, if_neg (by rintro ⟨_, h⟩; omega), if_neg (by rintro ⟨h, _⟩; rw [c] at h; exact wne.2.2.2.2.1 h.symm), if_pos ⟨c, b⟩]
  have e4 : ¬ ((ws.getD 0 [] = wFile ∨ ws.getD 0 [] = wConf) ∧ ws.length = 4) → ¬ (ws.getD 0 [] = wDir ∧ ws.length = 3) → ¬ (ws.getD 0 [] = wLink ∧ ws.length = 3) → rEnt ws = (dE, false) := fun a b c => by
    rw [rEnt, if_neg a, if_neg b, if_neg c]
  repeat' (first | exact True.intro | (exfalso; omega) | (exfalso; contradiction) | (rw [e1 (by first | assumption | exact Decidable.not_not.1 (by assumption)) (by omega)]; exact ⟨le_refl _, by first | rfl | simp_all⟩) | (rw [e5 (by first | assumption | exact Decidable.not_not.1 (by assumption)) (by omega)]; exact ⟨le_refl _, by first | rfl | simp_all⟩) | (rw [e2 (by first | assumption | exact Decidable.not_not.1 (by assumption)) (by omega)]; exact ⟨le_refl _, by first | rfl | simp_all⟩) | (rw [e3 (by first | assumption | exact Decidable.not_not.1 (by assumption)) (by omega)]; exact ⟨le_refl _, by first | rfl | simp_all⟩) | (rw [e4 (by rintro ⟨h | h, hl⟩ <;> first | omega | exact absurd h (by assumption)) (by rintro ⟨h, hl⟩; first | omega | exact absurd h (by assumption)) (by rintro ⟨h, hl⟩; first | omega | exact absurd h (by assumption))]; exact ⟨le_refl _, rfl⟩) | refine cl (rrm_ok (ws.getD 1 []) (by omega)) (gr ?_) | refine cl (runhex_ok (ws.getD 2 []) (by omega)) (gr ?_) | refine br (fun h => ?_) (fun h => ?_) | refine gr ?_)
end Go.Proofs.YtagjeabdcjcchaaGreatDoor.Ev
namespace Go.Proofs.YtagjeabdcjcchaaGreatDoor.Ev
open Go.RowKit
open Go.Proofs.YtagjeabdcjcchaaGreatDoor.Mem
set_option linter.unusedVariables false
set_option linter.unusedSimpArgs false
set_option maxRecDepth 100000
def lsM (s : List UInt8) : List (List UInt8) := sp 10 (Lib.trimSuffix s [10])
theorem sp_suf {s : List UInt8} (h : Lib.hasSuffix s [10] = true) : sp 10 s = lsM s ++ [[]] := by
  have e := suf_of h
  unfold lsM
  generalize Lib.trimSuffix s [10] = t at e
  rw [e, sp_end']
theorem sp_nil {s : List UInt8} (h4 : 2 ≤ (sp 10 s).length) (hl : (sp 10 s).getD ((sp 10 s).length - 1) [] = []) : Lib.hasSuffix s [10] = true := by
  have e := join_sp 10 s
  have h := take_at (sp 10 s) ((sp 10 s).length - 1) [] (by omega)
  rw [hl, show (sp 10 s).length - 1 + 1 = (sp 10 s).length by omega, List.take_length] at h
  rw [h, join_snoc 10 _ _ (by intro e; have := congrArg List.length e; rw [List.length_take, List.length_nil] at this; omega)] at e
  rw [← e]
  exact (suf_app _ _).1
theorem parse_bad {s : List UInt8} (h : ¬ s.length > 1048576) (h2 : Lib.hasSuffix s [10] = true → (readAllM (lsM s)).2 = false) : parseM s = (dM, 2) := by
  unfold parseM
  rw [if_neg h]
  by_cases e : Lib.hasSuffix s [10] = false
  · rw [if_pos e]
  · rw [if_neg e]
    have := h2 (by simpa using e)
    unfold lsM at this
    rw [if_pos this]
theorem ls_at {s : List UInt8} (h : Lib.hasSuffix s [10] = true) (i : Nat) (hi : i < (lsM s).length) : (sp 10 s).getD i [] = (lsM s).getD i [] := by
  rw [sp_suf h, List.getD_eq_getElem?_getD, List.getElem?_append_left hi, List.getD_eq_getElem?_getD]
/-- The first lines: where the document's reading stops. -/
theorem parse_bad0 {s : List UInt8} (h : ¬ s.length > 1048576) (h2 : (sp 10 s).length < 4 ∨ ¬ (sp 10 s).getD 0 [] = wHead ∨ ¬ (sp 10 s).getD ((sp 10 s).length - 1) [] = []) : parseM s = (dM, 2) := by
  refine parse_bad h fun hs => ?_
  have e := sp_suf hs
  have hl : (sp 10 s).length = (lsM s).length + 1 := by rw [e]; simp
  unfold readAllM
  rw [if_pos]
  rcases h2 with h2 | h2 | h2
  · left; omega
  · right
    have hp := sp_pos 10 (Lib.trimSuffix s [10])
    rw [← ls_at hs 0 hp]
    exact h2
  · exfalso
    refine h2 ?_
    rw [hl, e, List.getD_eq_getElem?_getD]
    simp
theorem headM_no {s w : List UInt8} (h : ¬ (sp 32 s).length = 2 ∨ ¬ (sp 32 s).getD 0 [] = w) : (headM s w).2 = false := by rw [headM, if_pos h]
theorem headM_yes {s w : List UInt8} (h : (sp 32 s).length = 2) (h2 : (sp 32 s).getD 0 [] = w) : headM s w = ((sp 32 s).getD 1 [], true) := by rw [headM, if_neg (by rintro (e | e) <;> contradiction)]
theorem all_no1 {ws : List (List UInt8)} (h : (headM (ws.getD 1 []) wName).2 = false) : (readAllM ws).2 = false := by
  unfold readAllM
  split
  · rfl
  · rw [if_pos (.inl h)]
theorem all_no2 {ws : List (List UInt8)} (h : (headM (ws.getD 2 []) wVers).2 = false) : (readAllM ws).2 = false := by
  unfold readAllM
  split
  · rfl
  · rw [if_pos (.inr h)]
/-- What the document's reading keeps, line by line. -/
def Rd (ws : List (List UInt8)) (i : Nat) (m : Man) (st : Int) : Prop :=
  (i = 1 ∧ st = 0 ∧ m = dM) ∨ (i = 2 ∧ st = 1 ∧ (headM (ws.getD 1 []) wName).2 = true ∧ m = ⟨(headM (ws.getD 1 []) wName).1, [], [], [], []⟩) ∨
  (3 ≤ i ∧ 2 ≤ st ∧ st ≤ 4 ∧ readAllM ws = goM (ws.drop i) m (st - 1))
theorem parse_end {s : List UInt8} {m : Man} (h : ¬ s.length > 1048576) (hs : Lib.hasSuffix s [10] = true) (h2 : readAllM (lsM s) = (m, true)) : parseM s = if ¬ checkM m = 0 then (dM, checkM m) else (m, 0) := by
  unfold parseM
  unfold lsM at h2
  rw [if_neg h, hs, if_neg (by decide), h2, if_neg (by simp)]
theorem all_yes {ws : List (List UInt8)} (h3 : ¬ ws.length < 3) (h0 : ws.getD 0 [] = wHead) (h1 : (headM (ws.getD 1 []) wName).2 = true) (h2 : (headM (ws.getD 2 []) wVers).2 = true) : readAllM ws = goM (ws.drop 3) ⟨(headM (ws.getD 1 []) wName).1, (headM (ws.getD 2 []) wVers).1, [], [], []⟩ 1 := by
  unfold readAllM
  rw [if_neg (by rintro (h | h) <;> contradiction), if_neg (by rw [h1, h2]; decide)]
theorem goM_low {l : List UInt8} {r : List (List UInt8)} {m : Man} {last : Int} (h : rankM (readM l) < last) : goM (l :: r) m last = (dM, false) := by rw [goM, if_pos h]
theorem rank_needs {l : List UInt8} (h : (sp 32 l).getD 0 [] = wNeeds) : rankM (readM l) ≤ 1 := by
  cases e : (rdRule ((sp 32 l).drop 1)).2 with
  | false => rw [readM_rule (.inl h) e]; decide
  | true => rw [readM_nd h e]; exact Int.le_refl 1
theorem rank_clash {l : List UInt8} (h : (sp 32 l).getD 0 [] = wClash) : rankM (readM l) ≤ 2 := by
  cases e : (rdRule ((sp 32 l).drop 1)).2 with
  | false => rw [readM_rule (.inr h) e]; decide
  | true => rw [readM_cl h e]; exact Int.le_refl 2
theorem rank_other {l : List UInt8} (h : (sp 32 l).getD 0 [] = wName ∨ (sp 32 l).getD 0 [] = wVers) : rankM (readM l) = 0 := by
  rw [readM_no]
  · rfl
  · rw [← Bool.not_eq_true]
    intro e
    have := (rEnt_yes e).2
    unfold kwd at this
    rcases h with h | h <;> rw [h] at this <;> exact absurd this (by decide)
  · rcases h with h | h <;> rw [h] <;> decide
  · rcases h with h | h <;> rw [h] <;> decide
end Go.Proofs.YtagjeabdcjcchaaGreatDoor.Ev
namespace Go.Proofs.YtagjeabdcjcchaaGreatDoor.Ev
open Go.RowKit
open Go.Proofs.YtagjeabdcjcchaaGreatDoor.Mem
set_option linter.unusedVariables false
set_option linter.unusedSimpArgs false
set_option maxRecDepth 100000
set_option maxHeartbeats 4000000 in
theorem rcut_ok (s : List UInt8) (c : UInt8) (hs : s.length ≤ 1000000) : Spec Tryz.prog LL 109 [.s s, .n .u8 (c.toNat : Int)] (.sl 1 (List UInt8) [] (sp c s) .s) := by
  refine spec_of (C := ⟨Tryz.prog, LL, EE, []⟩) (rl := [.sl 1 (List UInt8) [] (sp c s) .s]) (rs := [.tmp 4]) CCx LLs Tryz.func109 rfl (by kernel_rfl) rfl (by kernel_rfl) (Nat.le_of_ble_eq_true rfl) (fun i => rfl) (fun i => by first | rfl | exact (Bool.or_false _).trans (eSd_men _ _)) rfl (by decide) ?_
  refine gr ?_
  refine lp_nil 5 9 hS (gr ?_) (gr ?_) ?_
  · trivial
  · trivial
  refine lp_hr [0, 1] [] (fun x : Nat × Nat × List (List UInt8) => [(5, .ow 5 x.2.2.length), (6, .n .i64 (x.2.1 : Int)), (7, .n .i64 (x.1 : Int))]) (fun x : Nat × Nat × List (List UInt8) => [(5, rS x.2.2)]) (fun x : Nat × Nat × List (List UInt8) => x.1 ≤ s.length + 1 ∧ x.2.2.length ≤ x.1 ∧ (x.1 ≤ s.length → x.2.1 ≤ x.1 ∧ x.2.2 ++ sp c (s.drop x.2.1) = sp c s ∧ c ∉ (s.drop x.2.1).take (x.1 - x.2.1)) ∧ (x.1 = s.length + 1 → x.2.2 = sp c s)) (fun x : Nat × Nat × List (List UInt8) => s.length + 1 - x.1) ((0, 0, [])) id ⟨Nat.zero_le _, Nat.le_refl _, fun _ => ⟨Nat.le_refl _, by simp, by simp⟩, fun h => by simp at h⟩ (fits_of (gr ?_) (gr ?_) (gr ?_) (gr ?_) (gr ?_)) ?_
  · first | exact True.intro | exact ⟨rfl, rfl⟩ | exact ⟨rfl, rfl, rfl⟩ | rfl | exact rowc (List.map_id _) | trivial
  · first | exact True.intro | exact ⟨rfl, rfl⟩ | exact ⟨rfl, rfl, rfl⟩ | rfl | exact rowc (List.map_id _) | trivial
  · first | exact True.intro | exact ⟨rfl, rfl⟩ | exact ⟨rfl, rfl, rfl⟩ | rfl | exact rowc (List.map_id _) | trivial
  · first | exact True.intro | exact ⟨rfl, rfl⟩ | exact ⟨rfl, rfl, rfl⟩ | rfl | exact rowc (List.map_id _) | trivial
  · first | exact True.intro | exact ⟨rfl, rfl⟩ | exact ⟨rfl, rfl, rfl⟩ | rfl | exact rowc (List.map_id _) | trivial
  rintro ⟨i, a, l⟩ ⟨g1, g2, g3, g4⟩
  dsimp only at g1 g2 g3 g4 ⊢
  try refine gr ?_
  refine br (fun b => ?_) (fun b => ?_)
  · obtain ⟨g5, g6, g7⟩ := g3 (by omega)
    try refine gr ?_
    refine br (fun e => ?_) (fun e => ?_)
    · try refine gr ?_
      refine br (fun d => ?_) (fun d => ?_)
      · have hd : s.getD i 0 = c := UInt8.toNat_inj.1 (show by' s i = c.toNat by omega)
        have hc := drop_cut s a i g5 (by omega)
        rw [hd] at hc
        rw [hc, sp_app g7] at g6
        try refine gr ?_
        refine .inr ?_
        refine ⟨(i + 1, i + 1, l ++ [(s.take i).drop a]), fun i => if i = 5 then 31 else i, ⟨by dsimp only; omega, by simp; omega, fun _ => ⟨Nat.le_refl _, by dsimp only; rw [List.drop_take, List.append_assoc]; exact g6, by simp⟩, fun h => by dsimp only at h; omega⟩, (by dsimp only; omega), fits_of (gr ?_) (gr ?_) (gr ?_) (gr ?_) (gr ?_)⟩
        · first | exact True.intro | exact ⟨rfl, rfl⟩ | exact ⟨rfl, rfl, rfl⟩ | rfl | exact rowc (List.map_id _) | trivial
        · first | exact True.intro | exact ⟨rfl, rfl⟩ | exact ⟨rfl, rfl, rfl⟩ | rfl | exact rowc (List.map_id _) | trivial
        · first | exact True.intro | exact ⟨rfl, rfl⟩ | exact ⟨rfl, rfl, rfl⟩ | rfl | exact rowc (List.map_id _) | trivial
        · first | exact True.intro | exact ⟨rfl, rfl⟩ | exact ⟨rfl, rfl, rfl⟩ | rfl | exact rowc (List.map_id _) | trivial
        · first | exact True.intro | exact ⟨rfl, rfl⟩ | exact ⟨rfl, rfl, rfl⟩ | rfl | exact rowc (List.map_id _) | trivial
      · have hm := mid_at s a i g5 (by omega)
        try refine gr ?_
        refine ⟨(i + 1, a, l), id, ⟨by dsimp only; omega, by dsimp only; omega, fun _ => ⟨by dsimp only; omega, g6, by dsimp only; rw [hm]; simp only [List.mem_append, List.mem_singleton, not_or]; exact ⟨g7, fun e => d (by unfold by'; rw [← e])⟩⟩, fun h => by dsimp only at h; omega⟩, (by dsimp only; omega), fits_of (gr ?_) (gr ?_) (gr ?_) (gr ?_) (gr ?_)⟩
        · first | exact True.intro | exact ⟨rfl, rfl⟩ | exact ⟨rfl, rfl, rfl⟩ | rfl | exact rowc (List.map_id _) | trivial
        · first | exact True.intro | exact ⟨rfl, rfl⟩ | exact ⟨rfl, rfl, rfl⟩ | rfl | exact rowc (List.map_id _) | trivial
        · first | exact True.intro | exact ⟨rfl, rfl⟩ | exact ⟨rfl, rfl, rfl⟩ | rfl | exact rowc (List.map_id _) | trivial
        · first | exact True.intro | exact ⟨rfl, rfl⟩ | exact ⟨rfl, rfl, rfl⟩ | rfl | exact rowc (List.map_id _) | trivial
        · first | exact True.intro | exact ⟨rfl, rfl⟩ | exact ⟨rfl, rfl, rfl⟩ | rfl | exact rowc (List.map_id _) | trivial
    · have hi : i = s.length := by omega
      subst hi
      rw [List.take_of_length_le (by rw [List.length_drop]; exact Nat.le_refl _)] at g7
      rw [sp_no g7] at g6
      try refine gr ?_
      refine .inr ?_
      refine ⟨(s.length + 1, s.length + 1, l ++ [(s.take s.length).drop a]), fun i => if i = 5 then 31 else i, ⟨by dsimp only; omega, by simp; omega, fun h => by dsimp only at h; omega, fun _ => by dsimp only; rw [List.take_length]; exact g6⟩, (by dsimp only; omega), fits_of (gr ?_) (gr ?_) (gr ?_) (gr ?_) (gr ?_)⟩
      · first | exact True.intro | exact ⟨rfl, rfl⟩ | exact ⟨rfl, rfl, rfl⟩ | rfl | exact rowc (List.map_id _) | trivial
      · first | exact True.intro | exact ⟨rfl, rfl⟩ | exact ⟨rfl, rfl, rfl⟩ | rfl | exact rowc (List.map_id _) | trivial
      · first | exact True.intro | exact ⟨rfl, rfl⟩ | exact ⟨rfl, rfl, rfl⟩ | rfl | exact rowc (List.map_id _) | trivial
      · first | exact True.intro | exact ⟨rfl, rfl⟩ | exact ⟨rfl, rfl, rfl⟩ | rfl | exact rowc (List.map_id _) | trivial
      · first | exact True.intro | exact ⟨rfl, rfl⟩ | exact ⟨rfl, rfl, rfl⟩ | rfl | exact rowc (List.map_id _) | trivial
  · try refine gr ?_
    rw [g4 (by omega)]
    exact le_refl _
end Go.Proofs.YtagjeabdcjcchaaGreatDoor.Ev
namespace Go.Proofs.YtagjeabdcjcchaaGreatDoor.Ev
open Go.RowKit
open Go.Proofs.YtagjeabdcjcchaaGreatDoor.Mem
set_option linter.unusedVariables false
set_option linter.unusedSimpArgs false
set_option maxRecDepth 100000
set_option maxHeartbeats 8000000 in
theorem rparse_ok (s : List UInt8) (hs : s.length ≤ 60000) : Spec Tryz.prog LL 74 [.s s] (.tp [eMan (parseM s).1, .n .i64 (parseM s).2]) := by
  refine spec_of (C := ⟨Tryz.prog, LL, EE, []⟩) (rl := [eMan (parseM s).1, .n .i64 (parseM s).2]) (rs := [.cell 2 40, .tmp 3]) CCx LLs Tryz.func74 rfl (by kernel_rfl) rfl (by kernel_rfl) (Nat.le_of_ble_eq_true rfl) (fun i => rfl) (fun i => by first | rfl | exact (Bool.or_false _).trans (eSd_men _ _)) rfl (by decide) ?_
  refine gr ?_
  have h0 : ¬ s.length > 1048576 := by omega
  have bad : (sp 10 s).length < 4 ∨ ¬ (sp 10 s).getD 0 [] = wHead ∨ ¬ (sp 10 s).getD ((sp 10 s).length - 1) [] = [] → parseM s = (dM, 2) := parse_bad0 h0
  have hcn := sp_cnt 10 s
  have hps := sp_pos 10 s
  refine br (fun a => ?_) (fun a => ?_)
  · exfalso; omega
  · try refine gr ?_
    refine cl (rcut_ok s 10 (by omega)) ?_
    refine gr ?_
    by_cases hb : (sp 10 s).length < 4 ∨ ¬ (sp 10 s).getD 0 [] = wHead ∨ ¬ (sp 10 s).getD ((sp 10 s).length - 1) [] = []
    · rw [bad hb]
      clear bad
      repeat' (first | exact True.intro | (exfalso; omega) | (exact dM_le) | ((exfalso; rcases hb with h | h | h <;> first | omega | contradiction)) | (rw [show (((sp 10 s).length : Int) - 1).toNat = (sp 10 s).length - 1 by omega]) | refine br (fun h => ?_) (fun h => ?_) | refine gr ?_)
    · clear bad
      have k4 : 4 ≤ (sp 10 s).length := by have := fun e => hb (.inl e); omega
      have kh : (sp 10 s).getD 0 [] = wHead := Decidable.not_not.1 fun e => hb (.inr (.inl e))
      have kl : (sp 10 s).getD ((sp 10 s).length - 1) [] = [] := Decidable.not_not.1 fun e => hb (.inr (.inr e))
      clear hb
      have hsf := sp_nil (by omega) kl
      have hln : (sp 10 s).length = (lsM s).length + 1 := by rw [sp_suf hsf]; simp
      have hat := ls_at hsf
      have hbad := parse_bad h0
      have hend := fun m => parse_end (m := m) h0 hsf
      have hwl := sp_le 10 s
      generalize hR : parseM s = R at *
      generalize hL : sp 10 s = L at *
      generalize hls : lsM s = ls at *
      rw [hat 0 (by omega)] at kh
      refine br (fun b1 => ?_) (fun b1 => ?_)
      · try refine gr ?_
        refine br (fun b2 => ?_) (fun b2 => ?_)
        · try refine gr ?_
          rw [show ((L.length : Int) - 1).toNat = L.length - 1 by omega]
          refine br (fun b3 => ?_) (fun b3 => ?_)
          · exact absurd kl b3
          · try refine gr ?_
            refine lp_nilc 5 40 [.s [], .s [], .nl, .nl, .nl] 2 16 78 hRu (gr ?_) (gr ?_) (gr ?_) ?_
            · trivial
            · trivial
            · trivial
            refine lp_nilc 5 40 [.s [], .s [], .ow 16 0, .nl, .nl] 3 17 78 hRu (gr ?_) (gr ?_) (gr ?_) ?_
            · trivial
            · trivial
            · trivial
            refine lp_nilc 5 40 [.s [], .s [], .ow 16 0, .ow 17 0, .nl] 4 18 34 hEn (gr ?_) (gr ?_) (gr ?_) ?_
            · trivial
            · trivial
            · trivial
            refine lp_hr [2, 4] [2] (fun x : Nat × Man × Int => [(5, .p 5 0), (6, .n .i64 x.2.2), (7, .n .i64 (x.1 : Int))]) (fun x : Nat × Man × Int => [(5, .cells 40 [.s x.2.1.name, .s x.2.1.ver, .ow 16 x.2.1.needs.length, .ow 17 x.2.1.clashes.length, .ow 18 x.2.1.ents.length]), (16, rR x.2.1.needs), (17, rR x.2.1.clashes), (18, rE x.2.1.ents)]) (fun x : Nat × Man × Int => 1 ≤ x.1 ∧ x.1 ≤ ls.length ∧ x.2.1.needs.length ≤ x.1 ∧ x.2.1.clashes.length ≤ x.1 ∧ x.2.1.ents.length ≤ x.1 ∧ Rd ls x.1 x.2.1 x.2.2) (fun x : Nat × Man × Int => ls.length - x.1) ((1, dM, 0)) id ⟨Nat.le_refl _, by omega, by decide, by decide, by decide, .inl ⟨rfl, rfl, rfl⟩⟩ (fits_of (gr ?_) (gr ?_) (gr ?_) (gr ?_) (gr ?_)) ?_
            · first | exact True.intro | exact ⟨rfl, rfl⟩ | exact ⟨rfl, rfl, rfl⟩ | rfl | exact rowc (List.map_id _) | trivial
            · first | exact True.intro | exact ⟨rfl, rfl⟩ | exact ⟨rfl, rfl, rfl⟩ | rfl | exact rowc (List.map_id _) | trivial
            · first | exact True.intro | exact ⟨rfl, rfl⟩ | exact ⟨rfl, rfl, rfl⟩ | rfl | exact rowc (List.map_id _) | trivial
            · first | exact True.intro | exact ⟨rfl, rfl⟩ | exact ⟨rfl, rfl, rfl⟩ | rfl | exact rowc (List.map_id _) | trivial
            · first | exact True.intro | exact ⟨rfl, rfl⟩ | exact ⟨rfl, rfl, rfl⟩ | rfl | exact rowc (List.map_id _) | trivial
            rintro ⟨i, m, st⟩ ⟨g0, g1, g2, g3, g4, hrd⟩
            dsimp only at g0 g1 g2 g3 g4 hrd ⊢
            try refine gr ?_
            refine br (fun f => ?_) (fun f => ?_)
            · have hw := hat i (by omega)
              have hwl2 : (L.getD i []).length ≤ s.length := hwl _ (getD_mem (by omega))
              rw [hw] at hwl2
              try refine gr ?_
              rw [hw]
              refine cl (rcut_ok (ls.getD i []) 32 (by omega)) ?_
              refine gr ?_
              have hwp := sp_pos 32 (ls.getD i [])
              have hwc := sp_cnt 32 (ls.getD i [])
              have hdr := drop_at ls i [] (by omega)
              have w1 := getD_len (sp_le 32 (ls.getD i [])) 1
              have w2 := getD_len (sp_le 32 (ls.getD i [])) 2
              refine ⟨by omega, ?_⟩
              rcases hrd with ⟨rfl, rfl, rfl⟩ | ⟨rfl, rfl, hd1, rfl⟩ | ⟨g5, g6, g7, hr⟩
              · have fail : (¬ (sp 32 (ls.getD 1 [])).length = 2 ∨ ¬ (sp 32 (ls.getD 1 [])).getD 0 [] = wName) → R = (dM, 2) := fun e => hbad fun _ => all_no1 (headM_no e)
                have good : (sp 32 (ls.getD 1 [])).length = 2 → (sp 32 (ls.getD 1 [])).getD 0 [] = wName → Rd ls 2 ⟨(sp 32 (ls.getD 1 [])).getD 1 [], [], [], [], []⟩ 1 := fun e1 e2 => .inr (.inl ⟨rfl, rfl, by rw [headM_yes e1 e2], by rw [headM_yes e1 e2]⟩)
                clear hbad hend
                repeat' (first | exact True.intro | (exfalso; omega) | (rw [fail (.inr (by assumption))]; exact ⟨dM_le, rfl⟩) | (rw [fail (.inl (by omega))]; exact ⟨dM_le, rfl⟩) | (refine ⟨⟨by omega, by omega⟩, ?_⟩) | (rw [show (((sp 32 (ls.getD 1 [])).length : Int) - 1).toNat = 1 by omega]) | (refine ⟨(2, ⟨(sp 32 (ls.getD 1 [])).getD 1 [], [], [], [], []⟩, 1), id, ⟨by dsimp only; omega, by dsimp only; omega, by simp, by simp, by simp, good (by omega) (by assumption)⟩, (by dsimp only; omega), fits_of (gr ?_) (gr ?_) (gr ?_) (gr ?_) (gr ?_)⟩ <;> (first | exact True.intro | exact ⟨rfl, rfl⟩ | exact ⟨rfl, rfl, rfl⟩ | rfl | exact rowc (List.map_id _) | trivial); done) | refine br (fun h => ?_) (fun h => ?_) | refine gr ?_)
              · have fail : (¬ (sp 32 (ls.getD 2 [])).length = 2 ∨ ¬ (sp 32 (ls.getD 2 [])).getD 0 [] = wVers) → R = (dM, 2) := fun e => hbad fun _ => all_no2 (headM_no e)
                have nv : (sp 32 (ls.getD 2 [])).getD 0 [] = wName → R = (dM, 2) := fun e => fail (.inr (by rw [e]; decide))
                have good : (sp 32 (ls.getD 2 [])).length = 2 → (sp 32 (ls.getD 2 [])).getD 0 [] = wVers → Rd ls 3 ⟨(headM (ls.getD 1 []) wName).1, (sp 32 (ls.getD 2 [])).getD 1 [], [], [], []⟩ 2 := fun e1 e2 => .inr (.inr ⟨by omega, by omega, by omega, by rw [all_yes (by omega) kh hd1 (by rw [headM_yes e1 e2]), headM_yes e1 e2]; rfl⟩)
                clear hbad hend
                repeat' (first | exact True.intro | (exfalso; omega) | (rw [nv (by assumption)]; exact ⟨dM_le, rfl⟩) | (rw [fail (.inr (by assumption))]; exact ⟨dM_le, rfl⟩) | (rw [fail (.inl (by omega))]; exact ⟨dM_le, rfl⟩) | (refine ⟨⟨by omega, by omega⟩, ?_⟩) | (rw [show (((sp 32 (ls.getD 2 [])).length : Int) - 1).toNat = 1 by omega]) | (refine ⟨(3, ⟨(headM (ls.getD 1 []) wName).1, (sp 32 (ls.getD 2 [])).getD 1 [], [], [], []⟩, 2), id, ⟨by dsimp only; omega, by dsimp only; omega, by simp, by simp, by simp, good (by omega) (by assumption)⟩, (by dsimp only; omega), fits_of (gr ?_) (gr ?_) (gr ?_) (gr ?_) (gr ?_)⟩ <;> (first | exact True.intro | exact ⟨rfl, rfl⟩ | exact ⟨rfl, rfl, rfl⟩ | rfl | exact rowc (List.map_id _) | trivial); done) | refine br (fun h => ?_) (fun h => ?_) | refine gr ?_)
              · have fail : rankM (readM (ls.getD i [])) < st - 1 → R = (dM, 2) := fun e => hbad fun _ => by rw [hr, hdr, goM_low e]
                have f0 : (sp 32 (ls.getD i [])).getD 0 [] = wName ∨ (sp 32 (ls.getD i [])).getD 0 [] = wVers → R = (dM, 2) := fun e => fail (by rw [rank_other e]; omega)
                have f1 : (sp 32 (ls.getD i [])).getD 0 [] = wNeeds → 2 < st → R = (dM, 2) := fun e h => fail (by have := rank_needs e; omega)
                have f2 : (sp 32 (ls.getD i [])).getD 0 [] = wClash → 3 < st → R = (dM, 2) := fun e h => fail (by have := rank_clash e; omega)
                have f3 : (sp 32 (ls.getD i [])).getD 0 [] = wNeeds ∨ (sp 32 (ls.getD i [])).getD 0 [] = wClash → (rdRule ((sp 32 (ls.getD i [])).drop 1)).2 = false → R = (dM, 2) := fun e h => fail (by rw [readM_rule e h]; show (0 : Int) < _; omega)
                have f4 : (rEnt (sp 32 (ls.getD i []))).2 = false → ¬ (sp 32 (ls.getD i [])).getD 0 [] = wNeeds → ¬ (sp 32 (ls.getD i [])).getD 0 [] = wClash → R = (dM, 2) := fun h h1 h2 => fail (by rw [readM_no h h1 h2]; show (0 : Int) < _; omega)
                have n1 : (sp 32 (ls.getD i [])).getD 0 [] = wNeeds → (rdRule ((sp 32 (ls.getD i [])).drop 1)).2 = true → ¬ 2 < st → Rd ls (i + 1) ⟨m.name, m.ver, m.needs ++ [(rdRule ((sp 32 (ls.getD i [])).drop 1)).1], m.clashes, m.ents⟩ 2 := fun e h h2 => .inr (.inr ⟨by omega, by omega, by omega, by rw [hr, hdr, goM_nd (readM_nd e h), if_neg (by omega)]; rfl⟩)
                have n2 : (sp 32 (ls.getD i [])).getD 0 [] = wClash → (rdRule ((sp 32 (ls.getD i [])).drop 1)).2 = true → ¬ 3 < st → Rd ls (i + 1) ⟨m.name, m.ver, m.needs, m.clashes ++ [(rdRule ((sp 32 (ls.getD i [])).drop 1)).1], m.ents⟩ 3 := fun e h h2 => .inr (.inr ⟨by omega, by omega, by omega, by rw [hr, hdr, goM_cl (readM_cl e h), if_neg (by omega)]; rfl⟩)
                have n3 : (rEnt (sp 32 (ls.getD i []))).2 = true → Rd ls (i + 1) ⟨m.name, m.ver, m.needs, m.clashes, m.ents ++ [(rEnt (sp 32 (ls.getD i []))).1]⟩ 4 := fun h => .inr (.inr ⟨by omega, by omega, by omega, by rw [hr, hdr, goM_th (readM_th h), if_neg (by omega)]; rfl⟩)
                clear hbad hend fail hr hdr
                repeat' (first | exact True.intro | (exfalso; omega) | (rw [f0 (.inl (by assumption))]; exact ⟨dM_le, rfl⟩) | (rw [f0 (.inr (by assumption))]; exact ⟨dM_le, rfl⟩) | (rw [f1 (by assumption) (by omega)]; exact ⟨dM_le, rfl⟩) | (rw [f2 (by assumption) (by omega)]; exact ⟨dM_le, rfl⟩) | (rw [f3 (.inl (by assumption)) (by first | assumption | exact Bool.eq_false_iff.2 (by assumption))]; exact ⟨dM_le, rfl⟩) | (rw [f3 (.inr (by assumption)) (by first | assumption | exact Bool.eq_false_iff.2 (by assumption))]; exact ⟨dM_le, rfl⟩) | (rw [f4 (by first | assumption | exact Bool.eq_false_iff.2 (by assumption)) (by assumption) (by assumption)]; exact ⟨dM_le, rfl⟩) | (refine ⟨(i + 1, ⟨m.name, m.ver, m.needs ++ [(rdRule ((sp 32 (ls.getD i [])).drop 1)).1], m.clashes, m.ents⟩, 2), fun i => if i = 16 then 131 else i, ⟨by dsimp only; omega, by dsimp only; omega, by simp <;> omega, by simp <;> omega, by simp <;> omega, n1 (by assumption) (by first | assumption | exact Decidable.not_not.1 (by assumption) | exact (Bool.not_eq_false _).mp (by assumption)) (by omega)⟩, (by dsimp only; omega), fits_of (gr ?_) (gr ?_) (gr ?_) (gr ?_) (gr ?_)⟩ <;> (first | exact True.intro | exact ⟨rfl, rfl⟩ | exact ⟨rfl, rfl, rfl⟩ | rfl | exact rowc (List.map_id _) | trivial); done) | (refine ⟨(i + 1, ⟨m.name, m.ver, m.needs, m.clashes ++ [(rdRule ((sp 32 (ls.getD i [])).drop 1)).1], m.ents⟩, 3), fun i => if i = 17 then 137 else i, ⟨by dsimp only; omega, by dsimp only; omega, by simp <;> omega, by simp <;> omega, by simp <;> omega, n2 (by assumption) (by first | assumption | exact Decidable.not_not.1 (by assumption) | exact (Bool.not_eq_false _).mp (by assumption)) (by omega)⟩, (by dsimp only; omega), fits_of (gr ?_) (gr ?_) (gr ?_) (gr ?_) (gr ?_)⟩ <;> (first | exact True.intro | exact ⟨rfl, rfl⟩ | exact ⟨rfl, rfl, rfl⟩ | rfl | exact rowc (List.map_id _) | trivial); done) | (refine ⟨(i + 1, ⟨m.name, m.ver, m.needs, m.clashes, m.ents ++ [(rEnt (sp 32 (ls.getD i []))).1]⟩, 4), fun i => if i = 18 then 96 else i, ⟨by dsimp only; omega, by dsimp only; omega, by simp <;> omega, by simp <;> omega, by simp <;> omega, n3 (by first | assumption | exact Decidable.not_not.1 (by assumption) | exact (Bool.not_eq_false _).mp (by assumption))⟩, (by dsimp only; omega), fits_of (gr ?_) (gr ?_) (gr ?_) (gr ?_) (gr ?_)⟩ <;> (first | exact True.intro | exact ⟨rfl, rfl⟩ | exact ⟨rfl, rfl, rfl⟩ | rfl | exact rowc (List.map_id _) | trivial); done) | refine cl (rrdRule_ok (sp 32 (ls.getD i [])) hwp) (gr ?_) | refine cl (rrdEnt_ok (sp 32 (ls.getD i [])) hwp (by omega) (by omega)) (gr ?_) | (refine .inr ?_) | refine br (fun h => ?_) (fun h => ?_) | refine gr ?_)
            · obtain rfl : i = ls.length := by omega
              have hi3 : 3 ≤ ls.length := by omega
              have hrd2 : 2 ≤ st ∧ readAllM ls = (m, true) := by
                rcases hrd with h | h | h
                · omega
                · omega
                · refine ⟨h.2.1, ?_⟩
                  rw [h.2.2.2, List.drop_length]
                  rfl
              obtain ⟨hst, hra⟩ := hrd2
              have hRe := hend m hra
              have hin := readAllM_in ls s.length (by rw [← hls]; exact fun w hw => Nat.le_trans (sp_le 10 _ w hw) (trim_len s [10]))
              rw [hra] at hin
              have hfit : m.Fit := hin.fit (by omega) (by omega)
              clear hbad hend
              try refine gr ?_
              refine br (fun c => ?_) (fun c => ?_)
              · exfalso; omega
              · try refine gr ?_
                refine cv (rcheck_ok m hfit) rfl (gr ?_) ?_
                · trivial
                refine gr ?_
                refine br (fun d => ?_) (fun d => ?_)
                · rw [if_pos d] at hRe
                  try refine gr ?_
                  rw [hRe]
                  exact ⟨dM_le, rfl⟩
                · rw [if_neg d] at hRe
                  try refine gr ?_
                  rw [hRe]
                  exact ⟨le_refl _, rfl⟩
        · rw [hat 0 (by omega)] at b2
          exact absurd kh b2
      · exfalso; omega
end Go.Proofs.YtagjeabdcjcchaaGreatDoor.Ev
