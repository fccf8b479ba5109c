/- Manifests read: the head's lines, modes, rules. -/
import Derived.Test.YtagjeabdcjcchaaGreatDoorNC
set_option linter.all false
namespace Go.Proofs.YtagjeabdcjcchaaGreatDoor.Ev
open Go.RowKit
open Go.Proofs.YtagjeabdcjcchaaGreatDoor.Mem
set_option linter.unusedVariables false
set_option linter.unusedSimpArgs false
set_option maxRecDepth 100000
theorem numM_lt (base zr : Nat) (hb : 2 ≤ base) : ∀ l n, n < 9223372036854775808 → (numM base zr l n).1 < 9223372036854775808
  | [], n, h => h
  | b :: r, n, h => by
    unfold numM
    have hd : (b.toNat + 256 - zr) % 256 < 256 := Nat.mod_lt _ (by omega)
    generalize (b.toNat + 256 - zr) % 256 = d at hd
    split
    · dsimp only; omega
    · rename_i h1
      have := (Nat.le_div_iff_mul_le (by omega)).1 (Nat.le_of_not_lt h1)
      exact numM_lt base zr hb r _ (by omega)
theorem getM_lt (s : List UInt8) : (getM s).1 < 9223372036854775808 := by
  unfold getM
  repeat' split
  all_goals first | exact numM_lt _ _ (by omega) _ _ (by omega) | (dsimp only; omega)
/-- Of a split text, a part is no longer than the whole. -/
theorem sp_le (c : UInt8) : ∀ s : List UInt8, ∀ w ∈ sp c s, w.length ≤ s.length
  | [], w, h => by simp [sp] at h; simp [h]
  | x :: r, w, h => by
    unfold sp at h
    split at h
    · rcases List.mem_cons.1 h with rfl | h
      · simp
      · exact Nat.le_succ_of_le (sp_le c r w h)
    · rcases List.mem_cons.1 h with rfl | h
      · have : ((sp c r).headD []).length ≤ r.length := by
          have hn := sp_ne c r
          have := sp_le c r
          cases e : sp c r with
          | nil => exact absurd e hn
          | cons a l => rw [e] at this; exact this a (by simp)
        simp only [List.length_cons]; omega
      · exact Nat.le_succ_of_le (sp_le c r w (List.mem_of_mem_tail h))
theorem sp_cnt (c : UInt8) : ∀ s : List UInt8, (sp c s).length ≤ s.length + 1
  | [] => by simp [sp]
  | x :: r => by
    have h := sp_cnt c r
    have hn := sp_ne c r
    unfold sp
    split
    · simp only [List.length_cons]; omega
    · simp only [List.length_cons, List.length_tail]
      have : (sp c r).length ≠ 0 := fun e => hn (List.length_eq_zero_iff.1 e)
      omega
theorem getD_len {l : List (List UInt8)} {n : Nat} (h : ∀ w ∈ l, w.length ≤ n) (i : Nat) : (l.getD i []).length ≤ n := by
  rw [List.getD_eq_getElem?_getD]
  cases e : l[i]? with
  | none => simp
  | some w => exact h w (List.mem_of_getElem? e)
def headM (s w : List UInt8) : List UInt8 × Bool := if ¬ (sp 32 s).length = 2 ∨ ¬ (sp 32 s).getD 0 [] = w then ([], false) else ((sp 32 s).getD 1 [], true)
theorem head_ok (s w : List UInt8) (hs : s.length ≤ 1000000000) : Spec Tryz.prog LL 183 [.s s, .s w] (.tp [.s (headM s w).1, .b (headM s w).2]) := by
  refine spec_of (C := ⟨Tryz.prog, LL, EE, []⟩) (rl := [.s (headM s w).1, .b (headM s w).2]) (rs := [.tmp 4, .tmp 5]) CCx LLs Tryz.func183 rfl (by kernel_rfl) rfl (by kernel_rfl) (Nat.le_of_ble_eq_true rfl) (fun i => rfl) (fun i => by first | rfl | exact (Bool.or_false _).trans (eSd_men _ _)) rfl (by decide) ?_
  refine gm ?_
  refine cl (split_ok s 32 (by omega)) ?_
  refine gm ?_
  repeat' (first | exact True.intro | (rw [headM, if_pos (by first | (left; omega) | (right; assumption))]; exact ⟨rfl, rfl⟩) | (rw [headM, if_neg (by rintro (h | h) <;> first | omega | (exact h (by assumption)) | (exact (by assumption : ¬¬_) h))]; exact ⟨rfl, rfl⟩) | (omega) | refine br (fun h => ?_) (fun h => ?_) | refine gm ?_)
def modeM (s : List UInt8) : Nat × Bool := if ¬ (getM s).2 = 0 ∨ ¬ (getM s).1 / 4096 = 0 ∨ ¬ octD 4 (getM s).1 = s then (0, false) else ((getM s).1, true)
theorem mode_ok (s : List UInt8) (hs : s.length ≤ 1500000) : Spec Tryz.prog LL 215 [.s s] (.tp [.n .i64 ((modeM s).1 : Int), .b (modeM s).2]) := by
  refine spec_of (C := ⟨Tryz.prog, LL, EE, []⟩) (rl := [.n .i64 ((modeM s).1 : Int), .b (modeM s).2]) (rs := [.tmp 2, .tmp 3]) CCx LLs Tryz.func215 rfl (by kernel_rfl) rfl (by kernel_rfl) (Nat.le_of_ble_eq_true rfl) (fun i => rfl) (fun i => by first | rfl | exact (Bool.or_false _).trans (eSd_men _ _)) rfl (by decide) ?_
  refine gm ?_
  refine cl (get_ok s hs) ?_
  refine gm ?_
  refine cl (octal_ok (getM s).1 4 (by omega) (getM_lt s)) ?_
  refine gm ?_
  repeat' (first | exact True.intro | (rw [modeM, if_pos (by simp_all)]; exact ⟨rfl, rfl⟩) | (rw [modeM, if_neg (by simp_all)]; exact ⟨rfl, rfl⟩) | (omega) | refine br (fun h => ?_) (fun h => ?_) | refine gm ?_)
inductive Sd
  | no
  | nd (r : Rul)
  | cl (r : Rul)
  | th (x : Ent)
def eSd : Sd → V
  | .no => .inil
  | .nd r => .it 185 (eRul r)
  | .cl r => .it 186 (eRul r)
  | .th x => .it 188 (eEnt x)
theorem eSdD : eSd .no = .inil ∧ (∀ r, eSd (.nd r) = .it 185 (eRul r)) ∧ (∀ r, eSd (.cl r) = .it 186 (eRul r)) ∧ (∀ x, eSd (.th x) = .it 188 (eEnt x)) := ⟨rfl, fun _ => rfl, fun _ => rfl, fun _ => rfl⟩
theorem eSd_men (x : Sd) (i : Nat) : men (eSd x) i = false := by cases x <;> rfl
theorem evw : (∀ bk, vw bk .inil = .inil) ∧ (∀ bk t v, vw bk (.it t v) = .it t (vw bk v)) := ⟨fun _ => rfl, fun _ _ _ => rfl⟩
theorem gr {p q : Prop} (hq : q) (h : p ↔ q := by simp (config := { maxSteps := 10000000 }) (disch := omega) only [evw, eSdD, fxM, cSd, wrc, eRd, eEd, eMd, eBd, eEE, rDs, eok, true_implies, eo5, ev5, Nat.mul_one, Nat.zero_mul, Nat.one_mul, Nat.add_zero, lenl, bne_self_eq_false, Int.reduceLT, Int.reduceLE, Int.reduceEq, Int.reduceNe, Int.reduceAdd, Int.reduceSub, Int.reduceMul, Int.reduceNeg, ebr, wr64, sdl, ler, true_or, or_true, rng, List.length_map, List.length_range, List.length_append, List.length_replicate, List.length_set, List.length_take, List.length_drop, List.not_mem_nil, false_implies, implies_true, ↓ec, ↓eg, ↓eo, ↓eox, ↓es, ↓et1, em, emR, efz, enl, ebx, ebt, et, ev, List.drop_nil, Option.some.injEq, Option.isSome_none, Int.reduceToNat, List.replicate_zero, Bool.or_self, ez, ef, ebd, et2, Int.toNat_natCast, Option.map_none, Option.map_some, List.all_cons, List.all_nil, Bool.and_self, List.cons_append, List.nil_append, List.append_nil, List.append_assoc, ep, ew, Option.isSome_some, id_eq, Nat.reduceLT, Nat.reduceSub, Bool.false_or, Bool.true_or, Bool.or_true, Bool.true_and, Bool.and_true, reduceCtorEq, Nat.reduceBEq, Bool.true_eq_false, Bool.false_eq_true, List.map_cons, List.map_nil, List.take_succ_cons, List.take_zero, List.drop_succ_cons, List.drop_zero, List.length_cons, List.length_nil, Nat.zero_add, Nat.reduceAdd, Nat.reduceLeDiff, Bool.not_true, Bool.not_false, List.getElem?_cons_succ, List.getElem?_cons_zero, Option.bind_some, ne_eq, not_false_eq_true, ↓eh1, eh, en, List.getD_cons_zero, List.getD_cons_succ, Nat.reduceEqDiff, ↓reduceIte, cond_true, cond_false, Bool.or_false, decide_true, decide_false, true_and, and_true, decide_eq_true_eq, decide_eq_false_iff_not, Bool.not_eq_true', Bool.not_eq_false', not_true_eq_false, Decidable.not_not]; exact Iff.rfl) : p := h.2 hq
-- driver gr
def rankM : Sd → Int
  | .no => 0
  | .nd _ => 1
  | .cl _ => 2
  | .th _ => 3
theorem rank_no  : Spec Tryz.prog LL 185 [.inil] (.n .i64 0) := by
  refine spec_of (C := ⟨Tryz.prog, LL, EE, []⟩) (rl := [.n .i64 0]) (rs := [.tmp 2]) CCx LLs Tryz.func185 rfl (by kernel_rfl) rfl (by kernel_rfl) (Nat.le_of_ble_eq_true rfl) (fun i => rfl) (fun i => by first | rfl | exact (Bool.or_false _).trans (eSd_men _ _)) rfl (by decide) ?_
  refine gm ?_
  repeat' (first | exact True.intro | (exact rfl) | refine br (fun h => ?_) (fun h => ?_) | refine gm ?_)
theorem rank_nd (r : Rul) : Spec Tryz.prog LL 185 [.it 185 (eRul r)] (.n .i64 1) := by
  refine spec_of (C := ⟨Tryz.prog, LL, EE, []⟩) (rl := [.n .i64 1]) (rs := [.tmp 2]) CCx LLs Tryz.func185 rfl (by kernel_rfl) rfl (by kernel_rfl) (Nat.le_of_ble_eq_true rfl) (fun i => rfl) (fun i => by first | rfl | exact (Bool.or_false _).trans (eSd_men _ _)) rfl (by decide) ?_
  refine gm ?_
  repeat' (first | exact True.intro | (exact rfl) | refine br (fun h => ?_) (fun h => ?_) | refine gm ?_)
theorem rank_cl (r : Rul) : Spec Tryz.prog LL 185 [.it 186 (eRul r)] (.n .i64 2) := by
  refine spec_of (C := ⟨Tryz.prog, LL, EE, []⟩) (rl := [.n .i64 2]) (rs := [.tmp 2]) CCx LLs Tryz.func185 rfl (by kernel_rfl) rfl (by kernel_rfl) (Nat.le_of_ble_eq_true rfl) (fun i => rfl) (fun i => by first | rfl | exact (Bool.or_false _).trans (eSd_men _ _)) rfl (by decide) ?_
  refine gm ?_
  repeat' (first | exact True.intro | (exact rfl) | refine br (fun h => ?_) (fun h => ?_) | refine gm ?_)
theorem rank_th (x : Ent) : Spec Tryz.prog LL 185 [.it 188 (eEnt x)] (.n .i64 3) := by
  refine spec_of (C := ⟨Tryz.prog, LL, EE, []⟩) (rl := [.n .i64 3]) (rs := [.tmp 2]) CCx LLs Tryz.func185 rfl (by kernel_rfl) rfl (by kernel_rfl) (Nat.le_of_ble_eq_true rfl) (fun i => rfl) (fun i => by first | rfl | exact (Bool.or_false _).trans (eSd_men _ _)) rfl (by decide) ?_
  refine gm ?_
  repeat' (first | exact True.intro | (exact rfl) | refine br (fun h => ?_) (fun h => ?_) | refine gm ?_)
def opF (w : List UInt8) : Nat → Nat → Nat
  | 0, _ => 0
  | k + 1, o => if signL o = w then o else opF w k (o + 1)
def rdRule (ws : List (List UInt8)) : Rul × Bool :=
  if ws.length = 1 then (⟨ws.getD 0 [], 0, []⟩, true) else
  if ws.length = 3 ∧ ¬ opF (ws.getD 1 []) 5 1 = 0 then (⟨ws.getD 0 [], opF (ws.getD 1 []) 5 1, ws.getD 2 []⟩, true) else (dR, false)
theorem rdRule_ok (ws : List (List UInt8)) : Spec Tryz.prog LL 208 [.sl 1 (List UInt8) [] ws .s] (.tp [eRul (rdRule ws).1, .b (rdRule ws).2]) := by
  refine spec_of (C := ⟨Tryz.prog, LL, EE, []⟩) (rl := [eRul (rdRule ws).1, .b (rdRule ws).2]) (rs := [.cell 2 78, .tmp 3]) CCx LLs Tryz.func208 rfl (by kernel_rfl) rfl (by kernel_rfl) (Nat.le_of_ble_eq_true rfl) (fun i => rfl) (fun i => by first | rfl | exact (Bool.or_false _).trans (eSd_men _ _)) rfl (by decide) ?_
  refine gm ?_
  refine br (fun a => ?_) (fun a => ?_)
  · try refine gm ?_
    rw [show rdRule ws = _ from if_pos (by omega)]
    exact ⟨le_refl _, rfl⟩
  · try refine gm ?_
    refine br (fun b => ?_) (fun b => ?_)
    · try refine gm ?_
      refine lp_hd [0, 2] [2] (fun o : Nat => [(4, .n .i64 (o : Int))]) (fun o : Nat => []) (fun o : Nat => 1 ≤ o ∧ o ≤ 6 ∧ opF (ws.getD 1 []) 5 1 = opF (ws.getD 1 []) (6 - o) o) (fun o : Nat => 6 - o) (1) id (id) ⟨by omega, by omega, rfl⟩ (fits_of (gm ?_) (gm ?_) (gm ?_) (gm ?_) (gm ?_)) ?_
      · first | exact True.intro | exact ⟨rfl, rfl⟩ | exact ⟨rfl, rfl, rfl⟩ | rfl | exact rowc (List.map_id _) | trivial
      · first | exact True.intro | exact ⟨rfl, rfl⟩ | exact ⟨rfl, rfl, rfl⟩ | rfl | exact rowc (List.map_id _) | trivial
      · first | exact True.intro | exact ⟨rfl, rfl⟩ | exact ⟨rfl, rfl, rfl⟩ | rfl | exact rowc (List.map_id _) | trivial
      · first | exact True.intro | exact ⟨rfl, rfl⟩ | exact ⟨rfl, rfl, rfl⟩ | rfl | exact rowc (List.map_id _) | trivial
      · first | exact True.intro | exact ⟨rfl, rfl⟩ | exact ⟨rfl, rfl, rfl⟩ | rfl | exact rowc (List.map_id _) | trivial
      rintro o ⟨h1, h2, hr⟩
      try refine gm ?_
      refine br (fun e => ?_) (fun e => ?_)
      · rw [show opF (ws.getD 1 []) (6 - o) o = if signL (o : Int) = ws.getD 1 [] then o else opF (ws.getD 1 []) (5 - o) (o + 1) by rw [show 6 - o = (5 - o) + 1 by omega]; rfl] at hr
        try refine gm ?_
        refine cd (msign_ok (o : Int)) ?_
        refine gm ?_
        refine br (fun c => ?_) (fun c => ?_)
        · try refine gm ?_
          rw [if_pos c] at hr
          rw [show rdRule ws = (⟨ws.getD 0 [], (o : Int), ws.getD 2 []⟩, true) by rw [rdRule, if_neg (by omega), if_pos ⟨by omega, by rw [hr]; omega⟩, hr]]
          exact ⟨le_refl _, rfl⟩
        · rw [if_neg c] at hr
          try refine gm ?_
          refine ⟨o + 1, ⟨by omega, by omega, by rw [hr, show 6 - (o + 1) = 5 - o by omega]⟩, (by omega), fits_of (gm ?_) (gm ?_) (gm ?_) (gm ?_) (gm ?_)⟩
          · first | exact True.intro | exact ⟨rfl, rfl⟩ | exact ⟨rfl, rfl, rfl⟩ | rfl | exact rowc (List.map_id _) | trivial
          · first | exact True.intro | exact ⟨rfl, rfl⟩ | exact ⟨rfl, rfl, rfl⟩ | rfl | exact rowc (List.map_id _) | trivial
          · first | exact True.intro | exact ⟨rfl, rfl⟩ | exact ⟨rfl, rfl, rfl⟩ | rfl | exact rowc (List.map_id _) | trivial
          · first | exact True.intro | exact ⟨rfl, rfl⟩ | exact ⟨rfl, rfl, rfl⟩ | rfl | exact rowc (List.map_id _) | trivial
          · first | exact True.intro | exact ⟨rfl, rfl⟩ | exact ⟨rfl, rfl, rfl⟩ | rfl | exact rowc (List.map_id _) | trivial
      · rw [show 6 - o = 0 by omega, opF] at hr
        try refine gm ?_
        rw [show rdRule ws = (dR, false) by rw [rdRule, if_neg (by omega), if_neg (fun h => h.2 hr)]]
        exact ⟨le_refl _, rfl⟩
    · try refine gm ?_
      rw [show rdRule ws = (dR, false) by rw [rdRule, if_neg (by omega), if_neg (fun h => by omega)]]
      exact ⟨le_refl _, rfl⟩
end Go.Proofs.YtagjeabdcjcchaaGreatDoor.Ev
namespace Go.Proofs.YtagjeabdcjcchaaGreatDoor.Ev
open Go.RowKit
open Go.Proofs.YtagjeabdcjcchaaGreatDoor.Mem
set_option linter.unusedVariables false
set_option linter.unusedSimpArgs false
set_option maxRecDepth 100000
def thingM (ws : List (List UInt8)) : Ent × Bool :=
  if ws.getD 0 [] = wLink then (if ¬ ws.length = 3 then (dE, false) else (⟨3, 0, [], ws.getD 1 [], ws.getD 2 []⟩, true)) else
  if ws.getD 0 [] = wDir then (if ¬ ws.length = 3 then (dE, false) else (⟨2, (modeM (ws.getD 1 [])).1, [], ws.getD 2 [], []⟩, (modeM (ws.getD 1 [])).2)) else
  if ¬ ws.length = 4 then (dE, false) else
  (⟨if ws.getD 0 [] = wConf then 5 else 1, (modeM (ws.getD 1 [])).1, (unhexL (ws.getD 2 [])).1, ws.getD 3 [], []⟩, (modeM (ws.getD 1 [])).2 && (unhexL (ws.getD 2 [])).2)
theorem thing_ok (ws : List (List UInt8)) (h0 : 0 < ws.length) (h1 : (ws.getD 1 []).length ≤ 1500000) (h2 : (ws.getD 2 []).length ≤ 1500000) : Spec Tryz.prog LL 209 [.sl 1 (List UInt8) [] ws .s] (.tp [eEnt (thingM ws).1, .b (thingM ws).2]) := by
  refine spec_of (C := ⟨Tryz.prog, LL, EE, []⟩) (rl := [eEnt (thingM ws).1, .b (thingM ws).2]) (rs := [.cell 2 34, .tmp 3]) CCx LLs Tryz.func209 rfl (by kernel_rfl) rfl (by kernel_rfl) (Nat.le_of_ble_eq_true rfl) (fun i => rfl) (fun i => by first | rfl | exact (Bool.or_false _).trans (eSd_men _ _)) rfl (by decide) ?_
  refine gr ?_
  refine br (fun a => ?_) (fun a => ?_)
  · try refine gr ?_
    refine br (fun b => ?_) (fun b => ?_)
    · try refine gr ?_
      rw [show thingM ws = (dE, false) by rw [thingM, if_pos (show ws.getD 0 [] = wLink from a), if_pos (by omega)]]
      exact ⟨le_refl _, rfl⟩
    · try refine gr ?_
      rw [show thingM ws = (⟨3, 0, [], ws.getD 1 [], ws.getD 2 []⟩, true) by rw [thingM, if_pos (show ws.getD 0 [] = wLink from a), if_neg (by omega)]]
      exact ⟨le_refl _, rfl⟩
  · try refine gr ?_
    refine br (fun b => ?_) (fun b => ?_)
    · try refine gr ?_
      refine br (fun c => ?_) (fun c => ?_)
      · try refine gr ?_
        rw [show thingM ws = (dE, false) by rw [thingM, if_neg (show ¬ ws.getD 0 [] = wLink from a), if_pos (show ws.getD 0 [] = wDir from b), if_pos (by omega)]]
        exact ⟨le_refl _, rfl⟩
      · try refine gr ?_
        refine cl (mode_ok (ws.getD 1 []) h1) ?_
        refine gr ?_
        rw [show thingM ws = (⟨2, (modeM (ws.getD 1 [])).1, [], ws.getD 2 [], []⟩, (modeM (ws.getD 1 [])).2) by rw [thingM, if_neg (show ¬ ws.getD 0 [] = wLink from a), if_pos (show ws.getD 0 [] = wDir from b), if_neg (by omega)]]
        exact ⟨le_refl _, rfl⟩
    · try refine gr ?_
      refine br (fun c => ?_) (fun c => ?_)
      · try refine gr ?_
        rw [show thingM ws = (dE, false) by rw [thingM, if_neg (show ¬ ws.getD 0 [] = wLink from a), if_neg (show ¬ ws.getD 0 [] = wDir from b), if_pos (by omega)]]
        exact ⟨le_refl _, rfl⟩
      · try refine gr ?_
        refine cl (mode_ok (ws.getD 1 []) h1) ?_
        refine gr ?_
        refine cl (unhex_ok (ws.getD 2 []) (by omega)) ?_
        refine gr ?_
        have e : thingM ws = (⟨if ws.getD 0 [] = wConf then 5 else 1, (modeM (ws.getD 1 [])).1, (unhexL (ws.getD 2 [])).1, ws.getD 3 [], []⟩, (modeM (ws.getD 1 [])).2 && (unhexL (ws.getD 2 [])).2) := by rw [thingM, if_neg (show ¬ ws.getD 0 [] = wLink from a), if_neg (show ¬ ws.getD 0 [] = wDir from b), if_neg (by omega)]
        refine br (fun d => ?_) (fun d => ?_)
        · rw [if_pos (show ws.getD 0 [] = wConf from d)] at e
          try refine gr ?_
          refine br (fun f => ?_) (fun f => ?_)
          · rw [f, Bool.true_and] at e
            try refine gr ?_
            rw [e]
            exact ⟨le_refl _, rfl⟩
          · rw [Bool.eq_false_iff.2 f, Bool.false_and] at e
            try refine gr ?_
            rw [e]
            exact ⟨le_refl _, rfl⟩
        · rw [if_neg (show ¬ ws.getD 0 [] = wConf from d)] at e
          try refine gr ?_
          refine br (fun f => ?_) (fun f => ?_)
          · rw [f, Bool.true_and] at e
            try refine gr ?_
            rw [e]
            exact ⟨le_refl _, rfl⟩
          · rw [Bool.eq_false_iff.2 f, Bool.false_and] at e
            try refine gr ?_
            rw [e]
            exact ⟨le_refl _, rfl⟩
def readM (s : List UInt8) : Sd :=
  if (sp 32 s).getD 0 [] = wNeeds ∨ (sp 32 s).getD 0 [] = wClash then
    (if (rdRule ((sp 32 s).drop 1)).2 = false then .no else if (sp 32 s).getD 0 [] = wNeeds then .nd (rdRule ((sp 32 s).drop 1)).1 else .cl (rdRule ((sp 32 s).drop 1)).1) else
  if ((sp 32 s).getD 0 [] = wFile ∨ (sp 32 s).getD 0 [] = wConf ∨ (sp 32 s).getD 0 [] = wDir ∨ (sp 32 s).getD 0 [] = wLink) ∧ (thingM (sp 32 s)).2 = true then .th (thingM (sp 32 s)).1 else .no
theorem sp_pos (c : UInt8) (s : List UInt8) : 0 < (sp c s).length := Nat.pos_of_ne_zero fun e => sp_ne c s (List.length_eq_zero_iff.1 e)
theorem sd_le {x : Sd} {v : V} (h : eSd x = v) : le v (eSd x) := by rw [h]; exact le_refl _
theorem read_ok (s : List UInt8) (hs : s.length ≤ 1500000) : Spec Tryz.prog LL 184 [.s s] (eSd (readM s)) := by
  refine spec_of (C := ⟨Tryz.prog, LL, EE, []⟩) (rl := [eSd (readM s)]) (rs := [.tmp 2]) CCx LLs Tryz.func184 rfl (by kernel_rfl) rfl (by kernel_rfl) (Nat.le_of_ble_eq_true rfl) (fun i => rfl) (fun i => by first | rfl | exact (Bool.or_false _).trans (eSd_men _ _)) rfl (by decide) ?_
  refine gr ?_
  refine cl (split_ok s 32 (by omega)) ?_
  refine gr ?_
  have g1 := getD_len (sp_le 32 s) 1
  have g2 := getD_len (sp_le 32 s) 2
  have g0 := sp_pos 32 s
  repeat' (first | exact True.intro | (refine sd_le (?_ : eSd (readM s) = _); simp_all [readM, eSd, eRul, eEnt, wNeeds, wClash, wFile, wConf, wDir, wLink]; done) | refine cl (rdRule_ok ((sp 32 s).drop 1)) (gr ?_) | refine cl (thing_ok (sp 32 s) g0 (by omega) (by omega)) (gr ?_) | refine br (fun h => ?_) (fun h => ?_) | refine gr ?_)
end Go.Proofs.YtagjeabdcjcchaaGreatDoor.Ev
namespace Go.Proofs.YtagjeabdcjcchaaGreatDoor.Ev
open Go.RowKit
open Go.Proofs.YtagjeabdcjcchaaGreatDoor.Mem
set_option linter.unusedVariables false
set_option linter.unusedSimpArgs false
set_option maxRecDepth 100000
def dM : Man := ⟨[], [], [], [], []⟩
def addM (m : Man) : Sd → Man
  | .no => m
  | .nd r => { m with needs := m.needs ++ [r] }
  | .cl r => { m with clashes := m.clashes ++ [r] }
  | .th x => { m with ents := m.ents ++ [x] }
def goM : List (List UInt8) → Man → Int → Man × Bool
  | [], m, _ => (m, true)
  | l :: r, m, last => if rankM (readM l) < last then (dM, false) else goM r (addM m (readM l)) (rankM (readM l))
theorem goM_no {l : List UInt8} {r : List (List UInt8)} {m : Man} {last : Int} (h : readM l = .no) : goM (l :: r) m last = if (0 : Int) < last then (dM, false) else goM r m 0 := by rw [goM, h]; rfl
theorem goM_nd {l : List UInt8} {r : List (List UInt8)} {m : Man} {last : Int} {q : Rul} (h : readM l = .nd q) : goM (l :: r) m last = if (1 : Int) < last then (dM, false) else goM r ⟨m.name, m.ver, m.needs ++ [q], m.clashes, m.ents⟩ 1 := by rw [goM, h]; rfl
theorem goM_cl {l : List UInt8} {r : List (List UInt8)} {m : Man} {last : Int} {q : Rul} (h : readM l = .cl q) : goM (l :: r) m last = if (2 : Int) < last then (dM, false) else goM r ⟨m.name, m.ver, m.needs, m.clashes ++ [q], m.ents⟩ 2 := by rw [goM, h]; rfl
theorem goM_th {l : List UInt8} {r : List (List UInt8)} {m : Man} {last : Int} {q : Ent} (h : readM l = .th q) : goM (l :: r) m last = if (3 : Int) < last then (dM, false) else goM r ⟨m.name, m.ver, m.needs, m.clashes, m.ents ++ [q]⟩ 3 := by rw [goM, h]; rfl
def readAllM (ws : List (List UInt8)) : Man × Bool :=
  if ws.length < 3 ∨ ¬ ws.getD 0 [] = wHead then (dM, false) else
  if (headM (ws.getD 1 []) wName).2 = false ∨ (headM (ws.getD 2 []) wVers).2 = false then (dM, false) else
  goM (ws.drop 3) ⟨(headM (ws.getD 1 []) wName).1, (headM (ws.getD 2 []) wVers).1, [], [], []⟩ 1
theorem dM_le : le (.ag [.s [], .s [], .nl, .nl, .nl]) (eMan dM) := ⟨le_refl _, le_refl _, .inr ⟨rfl, _, _, _, _, rfl⟩, .inr ⟨rfl, _, _, _, _, rfl⟩, .inr ⟨rfl, _, _, _, _, rfl⟩, trivial⟩
def hRu : Elp := ⟨3, Rul, dR, eRul, cRul⟩
def hEn : Elp := ⟨5, Ent, dE, eEnt, cEnt⟩
set_option maxHeartbeats 4000000 in
theorem readAll_ok (ws : List (List UInt8)) (hl : ws.length ≤ 1500000) (hw : ∀ w ∈ ws, w.length ≤ 1500000) : Spec Tryz.prog LL 143 [.sl 1 (List UInt8) [] ws .s] (.tp [eMan (readAllM ws).1, .b (readAllM ws).2]) := by
  refine spec_of (C := ⟨Tryz.prog, LL, EE, []⟩) (rl := [eMan (readAllM ws).1, .b (readAllM ws).2]) (rs := [.cell 2 40, .tmp 3]) CCx LLs Tryz.func143 rfl (by kernel_rfl) rfl (by kernel_rfl) (Nat.le_of_ble_eq_true rfl) (fun i => rfl) (fun i => by first | rfl | exact (Bool.or_false _).trans (eSd_men _ _)) rfl (by decide) ?_
  refine gr ?_
  have no1 : (ws.length < 3 ∨ ¬ ws.getD 0 [] = wHead) → readAllM ws = (dM, false) := fun h => if_pos h
  have no2 : (headM (ws.getD 1 []) wName).2 = false ∨ (headM (ws.getD 2 []) wVers).2 = false → readAllM ws = (dM, false) := fun h => by
    rw [readAllM, if_pos h]
    split <;> rfl
  refine br (fun a => ?_) (fun a => ?_)
  · try refine gr ?_
    refine br (fun b => ?_) (fun b => ?_)
    · try refine gr ?_
      rw [no1 (.inr b)]
      exact ⟨dM_le, rfl⟩
    · try refine gr ?_
      refine cl (head_ok (ws.getD 1 []) wName (by have := getD_len hw 1; omega)) ?_
      refine gr ?_
      refine cl (head_ok (ws.getD 2 []) wVers (by have := getD_len hw 2; omega)) ?_
      refine gr ?_
      refine br (fun c => ?_) (fun c => ?_)
      · try refine gr ?_
        refine br (fun d => ?_) (fun d => ?_)
        · try refine gr ?_
          rw [no2 (.inr d)]
          exact ⟨dM_le, rfl⟩
        · try refine gr ?_
          have e0 : readAllM ws = goM (ws.drop 3) ⟨(headM (ws.getD 1 []) wName).1, (headM (ws.getD 2 []) wVers).1, [], [], []⟩ 1 := by
            rw [readAllM, if_neg (by rintro (h | h) <;> first | omega | exact b h), if_neg (by rintro (h | h) <;> simp_all)]
          generalize (headM (ws.getD 1 []) wName).1 = nm at e0 ⊢
          generalize (headM (ws.getD 2 []) wVers).1 = vr at e0 ⊢
          generalize hm0 : (⟨nm, vr, [], [], []⟩ : Man) = m0 at e0
          have hd3 : (ws.drop 3).length = ws.length - 3 := List.length_drop
          have hw3 : ∀ w ∈ ws.drop 3, w.length ≤ 1500000 := fun w h => hw w (List.mem_of_mem_drop h)
          generalize ws.drop 3 = ls at e0 hd3 hw3 ⊢
          refine lp_nilc 8 40 [.s nm, .s vr, .nl, .nl, .nl] 2 19 78 hRu (gr ?_) (gr ?_) (gr ?_) ?_
          · trivial
          · trivial
          · trivial
          refine lp_nilc 8 40 [.s nm, .s vr, .ow 19 0, .nl, .nl] 3 21 78 hRu (gr ?_) (gr ?_) (gr ?_) ?_
          · trivial
          · trivial
          · trivial
          refine lp_nilc 8 40 [.s nm, .s vr, .ow 19 0, .ow 21 0, .nl] 4 23 34 hEn (gr ?_) (gr ?_) (gr ?_) ?_
          · trivial
          · trivial
          · trivial
          refine lp_hr [2, 49, 50] [2] (fun x : Nat × Man × Int => [(8, .p 8 0), (9, .n .i64 x.2.2), (51, .n .i64 (x.1 : Int))]) (fun x : Nat × Man × Int => [(8, .cells 40 [.s x.2.1.name, .s x.2.1.ver, .ow 19 x.2.1.needs.length, .ow 21 x.2.1.clashes.length, .ow 23 x.2.1.ents.length]), (19, rR x.2.1.needs), (21, rR x.2.1.clashes), (23, rE x.2.1.ents)]) (fun x : Nat × Man × Int => x.1 ≤ ls.length ∧ x.2.1.needs.length ≤ x.1 ∧ x.2.1.clashes.length ≤ x.1 ∧ x.2.1.ents.length ≤ x.1 ∧ 1 ≤ x.2.2 ∧ readAllM ws = goM (ls.drop x.1) x.2.1 x.2.2) (fun x : Nat × Man × Int => ls.length - x.1) ((0, m0, 1)) id ⟨Nat.zero_le _, by rw [← hm0]; exact Nat.le_refl _, by rw [← hm0]; exact Nat.le_refl _, by rw [← hm0]; exact Nat.le_refl _, Int.le_refl 1, e0⟩ (fits_of (gr ?_) (gr ?_) (gr ?_) (gr ?_) (gr ?_)) ?_
          · first | exact True.intro | exact ⟨rfl, rfl⟩ | exact ⟨rfl, rfl, rfl⟩ | rfl | exact rowc (List.map_id _) | trivial
          · first | exact True.intro | exact ⟨rfl, rfl⟩ | exact ⟨rfl, rfl, rfl⟩ | rfl | exact rowc (List.map_id _) | trivial
          · first | exact True.intro | exact ⟨rfl, rfl⟩ | exact ⟨rfl, rfl, rfl⟩ | rfl | exact rowc (List.map_id _) | trivial
          · (subst hm0; exact ⟨rfl, rfl, rfl, rfl⟩)
          · first | exact True.intro | exact ⟨rfl, rfl⟩ | exact ⟨rfl, rfl, rfl⟩ | rfl | exact rowc (List.map_id _) | trivial
          rintro ⟨i, m, last⟩ ⟨hi, h1, h2, h3, h4, hr⟩
          dsimp only at hi h1 h2 h3 h4 hr ⊢
          try refine gr ?_
          refine br (fun f => ?_) (fun f => ?_)
          · rw [drop_at ls i [] (by omega)] at hr
            try refine gr ?_
            have hwl := getD_len hw3 i
            generalize ls.getD i [] = w at hr hwl ⊢
            refine cl (read_ok w hwl) ?_
            refine gr ?_
            rcases hx : readM w with _ | r | r | y
            · rw [goM_no hx] at hr
              refine cl (rank_no) ?_
              refine gr ?_
              refine br (fun g => ?_) (fun g => ?_)
              · try refine gr ?_
                rw [if_pos g] at hr
                rw [hr]
                exact ⟨dM_le, rfl⟩
              · exfalso; omega
            · rw [goM_nd hx] at hr
              refine cl (rank_nd r) ?_
              refine gr ?_
              refine br (fun g => ?_) (fun g => ?_)
              · try refine gr ?_
                rw [if_pos g] at hr
                rw [hr]
                exact ⟨dM_le, rfl⟩
              · rw [if_neg g] at hr
                try refine gr ?_
                refine .inr ?_
                refine ⟨(i + 1, ⟨m.name, m.ver, m.needs ++ [r], m.clashes, m.ents⟩, 1), fun i => if i = 19 then 73 else i, ⟨by dsimp only; omega, by simp <;> omega, by simp <;> omega, by simp <;> omega, by dsimp only; omega, hr⟩, (by dsimp only; omega), fits_of (gr ?_) (gr ?_) (gr ?_) (gr ?_) (gr ?_)⟩
                · first | exact True.intro | exact ⟨rfl, rfl⟩ | exact ⟨rfl, rfl, rfl⟩ | rfl | exact rowc (List.map_id _) | trivial
                · first | exact True.intro | exact ⟨rfl, rfl⟩ | exact ⟨rfl, rfl, rfl⟩ | rfl | exact rowc (List.map_id _) | trivial
                · first | exact True.intro | exact ⟨rfl, rfl⟩ | exact ⟨rfl, rfl, rfl⟩ | rfl | exact rowc (List.map_id _) | trivial
                · simp
                · first | exact True.intro | exact ⟨rfl, rfl⟩ | exact ⟨rfl, rfl, rfl⟩ | rfl | exact rowc (List.map_id _) | trivial
            · rw [goM_cl hx] at hr
              refine cl (rank_cl r) ?_
              refine gr ?_
              refine br (fun g => ?_) (fun g => ?_)
              · try refine gr ?_
                rw [if_pos g] at hr
                rw [hr]
                exact ⟨dM_le, rfl⟩
              · rw [if_neg g] at hr
                try refine gr ?_
                refine .inr ?_
                refine ⟨(i + 1, ⟨m.name, m.ver, m.needs, m.clashes ++ [r], m.ents⟩, 2), fun i => if i = 21 then 83 else i, ⟨by dsimp only; omega, by simp <;> omega, by simp <;> omega, by simp <;> omega, by dsimp only; omega, hr⟩, (by dsimp only; omega), fits_of (gr ?_) (gr ?_) (gr ?_) (gr ?_) (gr ?_)⟩
                · first | exact True.intro | exact ⟨rfl, rfl⟩ | exact ⟨rfl, rfl, rfl⟩ | rfl | exact rowc (List.map_id _) | trivial
                · first | exact True.intro | exact ⟨rfl, rfl⟩ | exact ⟨rfl, rfl, rfl⟩ | rfl | exact rowc (List.map_id _) | trivial
                · first | exact True.intro | exact ⟨rfl, rfl⟩ | exact ⟨rfl, rfl, rfl⟩ | rfl | exact rowc (List.map_id _) | trivial
                · simp
                · first | exact True.intro | exact ⟨rfl, rfl⟩ | exact ⟨rfl, rfl, rfl⟩ | rfl | exact rowc (List.map_id _) | trivial
            · rw [goM_th hx] at hr
              refine cl (rank_th y) ?_
              refine gr ?_
              refine br (fun g => ?_) (fun g => ?_)
              · try refine gr ?_
                rw [if_pos g] at hr
                rw [hr]
                exact ⟨dM_le, rfl⟩
              · rw [if_neg g] at hr
                try refine gr ?_
                refine .inr ?_
                refine ⟨(i + 1, ⟨m.name, m.ver, m.needs, m.clashes, m.ents ++ [y]⟩, 3), fun i => if i = 23 then 93 else i, ⟨by dsimp only; omega, by simp <;> omega, by simp <;> omega, by simp <;> omega, by dsimp only; omega, hr⟩, (by dsimp only; omega), fits_of (gr ?_) (gr ?_) (gr ?_) (gr ?_) (gr ?_)⟩
                · first | exact True.intro | exact ⟨rfl, rfl⟩ | exact ⟨rfl, rfl, rfl⟩ | rfl | exact rowc (List.map_id _) | trivial
                · first | exact True.intro | exact ⟨rfl, rfl⟩ | exact ⟨rfl, rfl, rfl⟩ | rfl | exact rowc (List.map_id _) | trivial
                · first | exact True.intro | exact ⟨rfl, rfl⟩ | exact ⟨rfl, rfl, rfl⟩ | rfl | exact rowc (List.map_id _) | trivial
                · simp
                · first | exact True.intro | exact ⟨rfl, rfl⟩ | exact ⟨rfl, rfl, rfl⟩ | rfl | exact rowc (List.map_id _) | trivial
          · try refine gr ?_
            rw [show i = ls.length by omega, List.drop_length, goM] at hr
            rw [hr]
            exact ⟨le_refl _, rfl⟩
      · try refine gr ?_
        rw [no2 (.inl (by simpa using c))]
        exact ⟨dM_le, rfl⟩
  · try refine gr ?_
    rw [no1 (.inl (by omega))]
    exact ⟨dM_le, rfl⟩
def parseM (s : List UInt8) : Man × Int :=
  if s.length > 1048576 then (dM, 3) else
  if Lib.hasSuffix s [10] = false then (dM, 2) else
  if (readAllM (sp 10 (Lib.trimSuffix s [10]))).2 = false then (dM, 2) else
  if ¬ checkM (readAllM (sp 10 (Lib.trimSuffix s [10]))).1 = 0 then (dM, checkM (readAllM (sp 10 (Lib.trimSuffix s [10]))).1) else
  ((readAllM (sp 10 (Lib.trimSuffix s [10]))).1, 0)
/-- What a manifest that was read fits. -/
def Man.In (m : Man) (k n : Nat) : Prop := m.name.length ≤ n ∧ m.ver.length ≤ n ∧ m.needs.length ≤ k ∧ m.clashes.length ≤ k ∧ m.ents.length ≤ k ∧ (∀ r ∈ m.needs, r.name.length ≤ n ∧ r.ver.length ≤ n) ∧ (∀ r ∈ m.clashes, r.name.length ≤ n ∧ r.ver.length ≤ n) ∧ ∀ x ∈ m.ents, x.path.length ≤ n ∧ x.target.length ≤ n ∧ x.sum.length ≤ n
theorem rdRule_in (ws : List (List UInt8)) (n : Nat) (h : ∀ w ∈ ws, w.length ≤ n) : (rdRule ws).1.name.length ≤ n ∧ (rdRule ws).1.ver.length ≤ n := by
  have := getD_len h 0
  have := getD_len h 2
  unfold rdRule
  repeat' split
  all_goals exact ⟨by first | assumption | exact Nat.zero_le _, by first | assumption | exact Nat.zero_le _⟩
theorem unhexL_len : ∀ s : List UInt8, (unhexL s).1.length ≤ s.length := by
  intro s
  fun_induction unhexL s <;> simp_all <;> omega
theorem thing_in (ws : List (List UInt8)) (n : Nat) (h : ∀ w ∈ ws, w.length ≤ n) : (thingM ws).1.path.length ≤ n ∧ (thingM ws).1.target.length ≤ n ∧ (thingM ws).1.sum.length ≤ n := by
  have := getD_len h 0
  have := getD_len h 1
  have g2 := getD_len h 2
  have := getD_len h 3
  have := Nat.le_trans (unhexL_len (ws.getD 2 [])) g2
  unfold thingM
  repeat' split
  all_goals exact ⟨by first | assumption | exact Nat.zero_le _, by first | assumption | exact Nat.zero_le _, by first | assumption | exact Nat.zero_le _⟩
theorem goM_in (n : Nat) : ∀ (ls : List (List UInt8)) (m : Man) (last : Int) (k : Nat), (∀ w ∈ ls, w.length ≤ n) → m.In k n → (goM ls m last).1.In (k + ls.length) n
  | [], m, last, k, h, hm => hm
  | l :: r, m, last, k, h, hm => by
    rw [goM]
    split
    · exact ⟨Nat.zero_le _, Nat.zero_le _, Nat.zero_le _, Nat.zero_le _, Nat.zero_le _, by simp [dM], by simp [dM], by simp [dM]⟩
    · rw [List.length_cons, show k + (r.length + 1) = k + 1 + r.length by omega]
      refine goM_in n r _ _ _ (fun w hw => h w (by simp [hw])) ?_
      have hl := h l (by simp)
      have hs : ∀ w ∈ sp 32 l, w.length ≤ n := fun w hw => Nat.le_trans (sp_le 32 l w hw) hl
      have g1 := rdRule_in ((sp 32 l).drop 1) n fun w hw => hs w (List.mem_of_mem_drop hw)
      have g2 := thing_in (sp 32 l) n hs
      obtain ⟨q1, q2, q3, q4, q5, q6, q7, q8⟩ := hm
      unfold readM
      repeat' split
      · exact ⟨q1, q2, by simp only [addM]; omega, by simp only [addM]; omega, by simp only [addM]; omega, q6, q7, q8⟩
      · exact ⟨q1, q2, by simp [addM]; omega, by simp only [addM]; omega, by simp only [addM]; omega, fun r hr => by
          rcases List.mem_append.1 hr with hr | hr
          · exact q6 r hr
          · rw [List.mem_singleton] at hr; subst hr; exact g1, q7, q8⟩
      · exact ⟨q1, q2, by simp only [addM]; omega, by simp [addM]; omega, by simp only [addM]; omega, q6, fun r hr => by
          rcases List.mem_append.1 hr with hr | hr
          · exact q7 r hr
          · rw [List.mem_singleton] at hr; subst hr; exact g1, q8⟩
      · exact ⟨q1, q2, by simp only [addM]; omega, by simp only [addM]; omega, by simp [addM]; omega, q6, q7, fun r hr => by
          rcases List.mem_append.1 hr with hr | hr
          · exact q8 r hr
          · rw [List.mem_singleton] at hr; subst hr; exact g2⟩
      · exact ⟨q1, q2, by simp only [addM]; omega, by simp only [addM]; omega, by simp only [addM]; omega, q6, q7, q8⟩
theorem headM_len (s w : List UInt8) : (headM s w).1.length ≤ s.length := by
  have := getD_len (sp_le 32 s) 1
  unfold headM
  split
  · exact Nat.zero_le _
  · exact this
theorem readAllM_in (ws : List (List UInt8)) (n : Nat) (h : ∀ w ∈ ws, w.length ≤ n) : (readAllM ws).1.In ws.length n := by
  have no : dM.In ws.length n := ⟨Nat.zero_le _, Nat.zero_le _, Nat.zero_le _, Nat.zero_le _, Nat.zero_le _, by simp [dM], by simp [dM], by simp [dM]⟩
  unfold readAllM
  split
  · exact no
  · split
    · exact no
    · have := goM_in n (ws.drop 3) ⟨(headM (ws.getD 1 []) wName).1, (headM (ws.getD 2 []) wVers).1, [], [], []⟩ 1 0 (fun w hw => h w (List.mem_of_mem_drop hw)) ⟨Nat.le_trans (headM_len _ _) (getD_len h 1), Nat.le_trans (headM_len _ _) (getD_len h 2), Nat.le_refl _, Nat.le_refl _, Nat.le_refl _, by simp, by simp, by simp⟩
      obtain ⟨q1, q2, q3, q4, q5, q6⟩ := this
      rw [List.length_drop] at q3 q4 q5
      exact ⟨q1, q2, by omega, by omega, by omega, q6⟩
theorem Man.In.fit {m : Man} {k n : Nat} (h : m.In k n) (hk : k ≤ 2000000) (hn : n ≤ 2000000) : m.Fit := by
  obtain ⟨q1, q2, q3, q4, q5, q6, q7, q8⟩ := h
  exact ⟨by omega, by omega, by omega, by omega, by omega, fun r hr => ⟨by have := (q6 r hr).1; omega, by have := (q6 r hr).2; omega⟩, fun r hr => ⟨by have := (q7 r hr).1; omega, by have := (q7 r hr).2; omega⟩, fun x hx => ⟨by have := (q8 x hx).1; omega, by have := (q8 x hx).2.1; omega, by have := (q8 x hx).2.2; omega⟩⟩
theorem trim_len (s p : List UInt8) : (Lib.trimSuffix s p).length ≤ s.length := by
  unfold Lib.trimSuffix
  split <;> simp
theorem parse_ok (s : List UInt8) (hs : s.length ≤ 9223372036854775807) : Spec Tryz.prog LL 106 [.s s] (.tp [eMan (parseM s).1, .n .i64 (parseM s).2]) := by
  refine spec_of (C := ⟨Tryz.prog, LL, EE, []⟩) (rl := [eMan (parseM s).1, .n .i64 (parseM s).2]) (rs := [.cell 2 40, .tmp 3]) CCx LLs Tryz.func106 rfl (by kernel_rfl) rfl (by kernel_rfl) (Nat.le_of_ble_eq_true rfl) (fun i => rfl) (fun i => by first | rfl | exact (Bool.or_false _).trans (eSd_men _ _)) rfl (by decide) ?_
  refine gr ?_
  refine br (fun a => ?_) (fun a => ?_)
  · try refine gr ?_
    rw [show parseM s = (dM, 3) from if_pos (by omega)]
    exact ⟨dM_le, rfl⟩
  · try refine gr ?_
    refine cl (cutsuf_ok s [10] hs) ?_
    refine gr ?_
    have hb : (Lib.trimSuffix s [10]).length ≤ 1048576 := Nat.le_trans (trim_len s [10]) (by omega)
    refine br (fun b => ?_) (fun b => ?_)
    · try refine gr ?_
      rw [show parseM s = (dM, 2) by rw [parseM, if_neg (by omega), if_pos b]]
      exact ⟨dM_le, rfl⟩
    · try refine gr ?_
      refine cl (split_ok (Lib.trimSuffix s [10]) 10 (by omega)) ?_
      refine gr ?_
      have hin := readAllM_in (sp 10 (Lib.trimSuffix s [10])) _ (sp_le 10 _)
      have hcn := sp_cnt 10 (Lib.trimSuffix s [10])
      refine cl (readAll_ok (sp 10 (Lib.trimSuffix s [10])) (by omega) (fun w hw => Nat.le_trans (sp_le 10 _ w hw) (by omega))) ?_
      refine gr ?_
      have hfit := hin.fit (by omega) (by omega)
      refine br (fun c => ?_) (fun c => ?_)
      · try refine gr ?_
        rw [show parseM s = (dM, 2) by rw [parseM, if_neg (by omega), if_neg b, if_pos c]]
        exact ⟨dM_le, rfl⟩
      · try refine gr ?_
        refine cl (check_ok (readAllM (sp 10 (Lib.trimSuffix s [10]))).1 hfit) ?_
        refine gr ?_
        refine br (fun d => ?_) (fun d => ?_)
        · try refine gr ?_
          rw [show parseM s = (dM, checkM (readAllM (sp 10 (Lib.trimSuffix s [10]))).1) by rw [parseM, if_neg (by omega), if_neg b, if_neg c, if_pos d]]
          exact ⟨dM_le, rfl⟩
        · try refine gr ?_
          rw [show parseM s = ((readAllM (sp 10 (Lib.trimSuffix s [10]))).1, 0) by rw [parseM, if_neg (by omega), if_neg b, if_neg c, if_neg d]]
          exact ⟨le_refl _, rfl⟩
end Go.Proofs.YtagjeabdcjcchaaGreatDoor.Ev
