/- Databases: how the document reads a text. -/
import Derived.Test.YtagjeabdcjcchaaGreatDoorPI
import Derived.Test.YtagjeabdcjcchaaGreatDoorPF
import Derived.Test.YtagjeabdcjcchaaGreatDoorVD
set_option linter.all false
namespace Go.Proofs.YtagjeabdcjcchaaGreatDoor.Ev
open Go.RowKit
open Go.Proofs.YtagjeabdcjcchaaGreatDoor.Mem
set_option linter.unusedVariables false
set_option linter.unusedSimpArgs false
set_option maxRecDepth 100000
theorem line_none {s : List UInt8} (h : 10 ∉ s) : lineM s = ([], [], false) := by
  have hi : ∀ s : List UInt8, 10 ∉ s → Lib.indexByte s 10 = -1 := by
    intro s
    induction s with
    | nil => intro _; rfl
    | cons x r ih =>
      intro hx
      have h1 : x ≠ 10 := fun e => hx (by simp [e])
      rw [ibn 10 x r h1, ih fun e => hx (by simp [e]), if_pos rfl]
  have hc : (Lib.cut s [10]).2.2 = false := by
    unfold Lib.cut
    rw [Lib.index_one, hi s h, if_neg (by omega)]
  unfold lineM
  rw [if_neg (by rw [hc]; simp)]
theorem orline_ok (s : List UInt8) (hs : s.length ≤ 100000000000000) : Spec Tryz.prog LL 42 [.s s] (.tp [.s (lineM s).1, .s (lineM s).2.1, .b (lineM s).2.2]) := by
  refine spec_of (C := ⟨Tryz.prog, LL, EE, []⟩) (rl := [.s (lineM s).1, .s (lineM s).2.1, .b (lineM s).2.2]) (rs := [.tmp 2, .tmp 3, .tmp 4]) CCx LLs Tryz.func42 rfl (by kernel_rfl) rfl (by kernel_rfl) (Nat.le_of_ble_eq_true rfl) (fun i => rfl) (fun i => by first | rfl | exact (Bool.or_false _).trans (eSd_men _ _)) rfl (by decide) ?_
  refine gb ?_
  refine lp_hd [0] [] (fun i : Nat => [(5, .n .i64 (i : Int))]) (fun i : Nat => []) (fun i : Nat => i ≤ s.length ∧ 10 ∉ s.take i) (fun i : Nat => s.length - i) (0) id (id) ⟨Nat.zero_le _, by simp⟩ (fits_of (gb ?_) (gb ?_) (gb ?_) (gb ?_) (gb ?_)) ?_
  · first | exact True.intro | exact ⟨rfl, rfl⟩ | exact ⟨rfl, rfl, rfl⟩ | rfl | exact rowc (List.map_id _) | trivial
  · first | exact True.intro | exact ⟨rfl, rfl⟩ | exact ⟨rfl, rfl, rfl⟩ | rfl | exact rowc (List.map_id _) | trivial
  · first | exact True.intro | exact ⟨rfl, rfl⟩ | exact ⟨rfl, rfl, rfl⟩ | rfl | exact rowc (List.map_id _) | trivial
  · first | exact True.intro | exact ⟨rfl, rfl⟩ | exact ⟨rfl, rfl, rfl⟩ | rfl | exact rowc (List.map_id _) | trivial
  · first | exact True.intro | exact ⟨rfl, rfl⟩ | exact ⟨rfl, rfl, rfl⟩ | rfl | exact rowc (List.map_id _) | trivial
  rintro i ⟨hi, hr⟩
  try refine gb ?_
  refine br (fun e => ?_) (fun e => ?_)
  · have hsp : s = s.take i ++ s.getD i 0 :: s.drop (i + 1) := by
      have := drop_at s i 0 (by omega)
      conv => lhs; rw [← List.take_append_drop i s, this]
    have htk := take_at s i 0 (by omega)
    try refine gb ?_
    refine br (fun c => ?_) (fun c => ?_)
    · have hc : s.getD i 0 = 10 := UInt8.toNat_inj.1 (show by' s i = 10 by omega)
      rw [hc] at hsp
      have hl := line_of (r := s.drop (i + 1)) hr
      rw [← hsp] at hl
      rw [hl]
      try refine gb ?_
      rw [show ((i : Int) + 1).toNat = i + 1 by omega]
    · try refine gb ?_
      refine ⟨i + 1, ⟨by omega, by rw [htk, List.mem_append, List.mem_singleton]; rintro (h | h); exact hr h; exact c (by unfold by'; rw [← h]; rfl)⟩, (by omega), fits_of (gb ?_) (gb ?_) (gb ?_) (gb ?_) (gb ?_)⟩
      · first | exact True.intro | exact ⟨rfl, rfl⟩ | exact ⟨rfl, rfl, rfl⟩ | rfl | exact rowc (List.map_id _) | trivial
      · first | exact True.intro | exact ⟨rfl, rfl⟩ | exact ⟨rfl, rfl, rfl⟩ | rfl | exact rowc (List.map_id _) | trivial
      · first | exact True.intro | exact ⟨rfl, rfl⟩ | exact ⟨rfl, rfl, rfl⟩ | rfl | exact rowc (List.map_id _) | trivial
      · first | exact True.intro | exact ⟨rfl, rfl⟩ | exact ⟨rfl, rfl, rfl⟩ | rfl | exact rowc (List.map_id _) | trivial
      · first | exact True.intro | exact ⟨rfl, rfl⟩ | exact ⟨rfl, rfl, rfl⟩ | rfl | exact rowc (List.map_id _) | trivial
  · try refine gb ?_
    rw [List.take_of_length_le (by omega)] at hr
    rw [line_none hr]
    exact ⟨rfl, rfl, rfl⟩
theorem val_take (s : List UInt8) (i : Nat) (h : i < s.length) : val 0 (s.take (i + 1)) = 10 * val 0 (s.take i) + ((s.getD i 0).toNat - 48) := by
  rw [take_at s i 0 h, val_snoc]
theorem val_lt : ∀ (s : List UInt8) (a : Nat), s.all dg = true → val a s < (a + 1) * 10 ^ s.length
  | [], a, _ => by simp [val]
  | c :: s, a, h => by
    rw [List.all_cons, Bool.and_eq_true] at h
    have hc : 48 ≤ c.toNat ∧ c.toNat ≤ 57 := of_decide_eq_true h.1
    have := val_lt s (10 * a + (c.toNat - 48)) h.2
    show val (10 * a + (c.toNat - 48)) s < _
    refine Nat.lt_of_lt_of_le this ?_
    rw [List.length_cons, Nat.pow_succ, Nat.mul_comm (10 ^ s.length) 10, ← Nat.mul_assoc]
    exact Nat.mul_le_mul_right _ (by omega)
theorem ornum_ok (s : List UInt8) (hs : s.length ≤ 100000000000000) : Spec Tryz.prog LL 73 [.s s] (.tp [.n .i64 ((nmM s).1 : Nat), .b (nmM s).2]) := by
  refine spec_of (C := ⟨Tryz.prog, LL, EE, []⟩) (rl := [.n .i64 ((nmM s).1 : Nat), .b (nmM s).2]) (rs := [.tmp 2, .tmp 3]) CCx LLs Tryz.func73 rfl (by kernel_rfl) rfl (by kernel_rfl) (Nat.le_of_ble_eq_true rfl) (fun i => rfl) (fun i => by first | rfl | exact (Bool.or_false _).trans (eSd_men _ _)) rfl (by decide) ?_
  refine gb ?_
  refine lp_hd [0] [] (fun i : Nat => [(4, .n .i64 (val 0 (s.take i) : Nat)), (5, .n .i64 (i : Int))]) (fun i : Nat => []) (fun i : Nat => i ≤ s.length ∧ i ≤ 7 ∧ (s.take i).all dg = true) (fun i : Nat => s.length - i) (0) id (id) ⟨Nat.zero_le _, by omega, rfl⟩ (fits_of (gb ?_) (gb ?_) (gb ?_) (gb ?_) (gb ?_)) ?_
  · first | exact True.intro | exact ⟨rfl, rfl⟩ | exact ⟨rfl, rfl, rfl⟩ | rfl | exact rowc (List.map_id _) | trivial
  · first | exact True.intro | exact ⟨rfl, rfl⟩ | exact ⟨rfl, rfl, rfl⟩ | rfl | exact rowc (List.map_id _) | trivial
  · first | exact True.intro | exact ⟨rfl, rfl⟩ | exact ⟨rfl, rfl, rfl⟩ | rfl | exact rowc (List.map_id _) | trivial
  · first | exact True.intro | exact ⟨rfl, rfl⟩ | exact ⟨rfl, rfl, rfl⟩ | rfl | exact rowc (List.map_id _) | trivial
  · first | exact True.intro | exact ⟨rfl, rfl⟩ | exact ⟨rfl, rfl, rfl⟩ | rfl | exact rowc (List.map_id _) | trivial
  rintro i ⟨hi, h7, hr⟩
  have hv := val_lt (s.take i) 0 hr
  have hp : 10 ^ (s.take i).length ≤ 10 ^ 7 := Nat.pow_le_pow_right (by decide) (by rw [List.length_take]; omega)
  have hv2 : val 0 (s.take i) < 10000000 := by omega
  clear hv hp
  try refine gb ?_
  refine br (fun e => ?_) (fun e => ?_)
  · have htk := take_at s i 0 (by omega)
    have hvt := val_take s i (by omega)
    have hall : s.all dg = true → dg (s.getD i 0) = true := fun h => List.all_eq_true.1 h _ (getD_mem (by omega))
    have no : ¬ (s.all dg = true ∧ s.length ≤ 7) → nmM s = (0, false) := fun h => if_neg h
    have no1 : ¬ (48 ≤ by' s i ∧ by' s i ≤ 57) → nmM s = (0, false) := fun h => no fun h2 => h (of_decide_eq_true (hall h2.1))
    have no2 : i = 7 → nmM s = (0, false) := fun h => no fun h2 => by omega
    have hb : by' s i < 256 := (s.getD i 0).toNat_lt
    repeat' (first | exact True.intro | ((rw [no1 (by omega)]; exact ⟨rfl, rfl⟩)) | ((rw [no2 (by omega)]; exact ⟨rfl, rfl⟩)) | refine br (fun h => ?_) (fun h => ?_) | refine gb ?_)
    have h8 : IntKind.u8.wrap ((by' s i : Int) - 48) = ((by' s i - 48 : Nat) : Int) := by simp [IntKind.wrap, IntKind.bits, IntKind.signed]; omega
    have hdg : dg (s.getD i 0) = true := decide_eq_true (show 48 ≤ by' s i ∧ by' s i ≤ 57 by omega)
    refine ⟨i + 1, ⟨by omega, by omega, by rw [htk, List.all_append, hr]; simp only [List.all_cons, List.all_nil, hdg, Bool.and_self]⟩, (by omega), fits_of (gb ?_) (gb ?_) (gb ?_) (gb ?_) (gb ?_)⟩
    · first | exact True.intro | exact ⟨rfl, rfl⟩ | exact ⟨rfl, rfl, rfl⟩ | rfl | exact rowc (List.map_id _) | trivial
    · (refine ⟨?_, rfl⟩; rw [hvt, show (s.getD i 0).toNat = by' s i from rfl]; exact congrArg (V.n IntKind.i64) (by have h9 := h8; omega))
    · first | exact True.intro | exact ⟨rfl, rfl⟩ | exact ⟨rfl, rfl, rfl⟩ | rfl | exact rowc (List.map_id _) | trivial
    · first | exact True.intro | exact ⟨rfl, rfl⟩ | exact ⟨rfl, rfl, rfl⟩ | rfl | exact rowc (List.map_id _) | trivial
    · first | exact True.intro | exact ⟨rfl, rfl⟩ | exact ⟨rfl, rfl, rfl⟩ | rfl | exact rowc (List.map_id _) | trivial
  · rw [List.take_of_length_le (by omega)] at hr hv2
    have yes : nmM s = (val 0 s, decide (s ≠ []) && (decide (s.getD 0 0 ≠ 48) || decide (s = [48]))) := if_pos ⟨hr, by omega⟩
    have hb0 : ¬ s = [] → ((by' s 0 : Int) = 48 ↔ s.getD 0 0 = 48) := fun _ => ⟨fun h => UInt8.toNat_inj.1 (show by' s 0 = 48 by omega), fun h => by unfold by'; rw [h]; rfl⟩
    have hlp : ¬ s = [] → 0 < s.length := List.length_pos_iff.2
    rw [yes, List.take_of_length_le (by omega)]
    dsimp only
    try refine gb ?_
    refine br (fun a => ?_) (fun a => ?_)
    · have hb0 := hb0 a
      have hlp := hlp a
      repeat' (first | exact True.intro | (simp_all; done) | refine br (fun h => ?_) (fun h => ?_) | refine gb ?_)
    · repeat' (first | exact True.intro | (simp_all; done) | refine br (fun h => ?_) (fun h => ?_) | refine gb ?_)
end Go.Proofs.YtagjeabdcjcchaaGreatDoor.Ev
namespace Go.Proofs.YtagjeabdcjcchaaGreatDoor.Ev
open Go.RowKit
open Go.Proofs.YtagjeabdcjcchaaGreatDoor.Mem
set_option linter.unusedVariables false
set_option linter.unusedSimpArgs false
set_option maxRecDepth 100000
theorem orpack_ok (hd s : List UInt8) (h5 : 5 ≤ hd.length) (hl : hd.length ≤ 100000) (hs : s.length ≤ 60000) : Spec Tryz.prog LL 43 [.s hd, .s s] (.tp [eMan (packM hd s).1, .s (packM hd s).2.1, .b (packM hd s).2.2]) := by
  refine spec_of (C := ⟨Tryz.prog, LL, EE, []⟩) (rl := [eMan (packM hd s).1, .s (packM hd s).2.1, .b (packM hd s).2.2]) (rs := [.cell 4 40, .tmp 5, .tmp 6]) CCx LLs Tryz.func43 rfl (by kernel_rfl) rfl (by kernel_rfl) (Nat.le_of_ble_eq_true rfl) (fun i => rfl) (fun i => by first | rfl | exact (Bool.or_false _).trans (eSd_men _ _)) rfl (by decide) ?_
  refine gb ?_
  refine cl (ornum_ok (hd.drop 5) (by rw [List.length_drop]; omega)) ?_
  refine gb ?_
  have no : ((nmM (hd.drop 5)).2 = false ∨ s.length < (nmM (hd.drop 5)).1) → packM hd s = (dM, [], false) := fun h => by rw [packM, if_pos h]
  have yes : ¬ ((nmM (hd.drop 5)).2 = false ∨ s.length < (nmM (hd.drop 5)).1) → packM hd s = ((parseM (s.take (nmM (hd.drop 5)).1)).1, s.drop (nmM (hd.drop 5)).1, decide ((parseM (s.take (nmM (hd.drop 5)).1)).2 = 0)) := fun h => by rw [packM, if_neg h]
  generalize nmM (hd.drop 5) = q at *
  obtain ⟨n, ok⟩ := q
  dsimp only at *
  repeat' (first | exact True.intro | ((rw [no (.inr (by omega))]; first | exact dM_le | exact ⟨dM_le, rfl, rfl⟩)) | ((rw [no (.inl (Bool.eq_false_iff.2 (by assumption)))]; first | exact dM_le | exact ⟨dM_le, rfl, rfl⟩)) | refine cl (rparse_ok (s.take n) (by rw [List.length_take]; omega)) (gb ?_) | ((rw [yes (by simp only [not_or]; exact ⟨by simp_all, by omega⟩)]; first | exact ⟨le_refl _, rfl, rfl⟩ | exact ⟨le_refl _, rfl⟩ | exact le_refl _)) | refine br (fun h => ?_) (fun h => ?_) | refine gb ?_)
theorem cut_none {s : List UInt8} {c : UInt8} (h : c ∉ s) : (Lib.cut s [c]).2.2 = false := by
  have hi : ∀ s : List UInt8, c ∉ s → Lib.indexByte s c = -1 := by
    intro s
    induction s with
    | nil => intro _; rfl
    | cons x r ih =>
      intro hx
      have h1 : x ≠ c := fun e => hx (by simp [e])
      rw [ibn c x r h1, ih fun e => hx (by simp [e]), if_pos rfl]
  unfold Lib.cut
  rw [Lib.index_one, hi s h, if_neg (by omega)]
set_option maxHeartbeats 4000000 in
theorem orrdir_ok (s : List UInt8) (hs : s.length ≤ 100000000000000) : Spec Tryz.prog LL 44 [.s s] (.tp [eShr (dirM s).1, .b (dirM s).2]) := by
  refine spec_of (C := ⟨Tryz.prog, LL, EE, []⟩) (rl := [eShr (dirM s).1, .b (dirM s).2]) (rs := [.cell 2 54, .tmp 3]) CCx LLs Tryz.func44 rfl (by kernel_rfl) rfl (by kernel_rfl) (Nat.le_of_ble_eq_true rfl) (fun i => rfl) (fun i => by first | rfl | exact (Bool.or_false _).trans (eSd_men _ _)) rfl (by decide) ?_
  refine gb ?_
  have no : (s.length < 6 ∨ ¬ s.take 4 = wDirS ∨ (¬ by' s 4 = 48 ∧ ¬ by' s 4 = 49) ∨ ¬ by' s 5 = 32 ∨ (Lib.cut (s.drop 6) [32]).2.2 = false) → dirM s = (dS, false) := fun h => by rw [dirM, if_pos h]
  have yes : ¬ (s.length < 6 ∨ ¬ s.take 4 = wDirS ∨ (¬ by' s 4 = 48 ∧ ¬ by' s 4 = 49) ∨ ¬ by' s 5 = 32 ∨ (Lib.cut (s.drop 6) [32]).2.2 = false) → dirM s = (⟨(Lib.cut (s.drop 6) [32]).2.1, ((nmM (Lib.cut (s.drop 6) [32]).1).1 : Nat), decide (by' s 4 = 49)⟩, (nmM (Lib.cut (s.drop 6) [32]).1).2) := fun h => by rw [dirM, if_neg h]
  by_cases c : s.length < 6 ∨ ¬ s.take 4 = wDirS ∨ (¬ by' s 4 = 48 ∧ ¬ by' s 4 = 49) ∨ ¬ by' s 5 = 32
  · have no := no (by rcases c with c | c | c | c; exact .inl c; exact .inr (.inl c); exact .inr (.inr (.inl c)); exact .inr (.inr (.inr (.inl c))))
    rw [no]
    repeat' (first | exact True.intro | (exact ⟨le_refl _, rfl⟩) | (exact le_refl _) | ((exfalso; rcases c with c | c | c | c; omega; exact c (by assumption); omega; omega)) | refine br (fun h => ?_) (fun h => ?_) | refine gb ?_)
  · simp only [not_or, Nat.not_lt, Decidable.not_not] at c
    obtain ⟨c1, c2, c3, c4⟩ := c
    have c2 : s.take 4 = [100, 105, 114, 32] := c2
    have lp : (fun (d : Shr) (b : Bool) => dirM s = (d, b)) = fun d b => dirM s = (d, b) := rfl
    generalize hrest : s.drop 6 = rest at no yes
    have hrl : rest.length ≤ s.length := by rw [← hrest, List.length_drop]; omega
    have yes : (Lib.cut rest [32]).2.2 = true → dirM s = (⟨(Lib.cut rest [32]).2.1, ((nmM (Lib.cut rest [32]).1).1 : Nat), decide (by' s 4 = 49)⟩, (nmM (Lib.cut rest [32]).1).2) := fun h => yes (by simp only [not_or, Nat.not_lt, Decidable.not_not]; exact ⟨c1, c2, by omega, by omega, by rw [h]; simp⟩)
    have no : (Lib.cut rest [32]).2.2 = false → dirM s = (dS, false) := fun h => no (.inr (.inr (.inr (.inr h))))
    by_cases c5 : by' s 4 = 48
    · repeat' (first | exact True.intro | ((exfalso; omega)) | ((exfalso; contradiction)) | (rw [hrest]) | refine br (fun h => ?_) (fun h => ?_) | refine gb ?_)
      refine lp_hd [0, 2, 4] [2] (fun i : Nat => [(5, .n .i64 (i : Int))]) (fun i : Nat => []) (fun i : Nat => i ≤ rest.length ∧ 32 ∉ rest.take i) (fun i : Nat => rest.length - i) (0) id (id) ⟨Nat.zero_le _, by simp⟩ (fits_of (gb ?_) (gb ?_) (gb ?_) (gb ?_) (gb ?_)) ?_
      · first | exact True.intro | exact ⟨rfl, rfl⟩ | exact ⟨rfl, rfl, rfl⟩ | rfl | exact rowc (List.map_id _) | trivial
      · first | exact True.intro | exact ⟨rfl, rfl⟩ | exact ⟨rfl, rfl, rfl⟩ | rfl | exact rowc (List.map_id _) | trivial
      · first | exact True.intro | exact ⟨rfl, rfl⟩ | exact ⟨rfl, rfl, rfl⟩ | rfl | exact rowc (List.map_id _) | trivial
      · first | exact True.intro | exact ⟨rfl, rfl⟩ | exact ⟨rfl, rfl, rfl⟩ | rfl | exact rowc (List.map_id _) | trivial
      · first | exact True.intro | exact ⟨rfl, rfl⟩ | exact ⟨rfl, rfl, rfl⟩ | rfl | exact rowc (List.map_id _) | trivial
      rintro i ⟨hi, hr⟩
      try refine gb ?_
      refine br (fun e => ?_) (fun e => ?_)
      · have hsp : rest = rest.take i ++ rest.getD i 0 :: rest.drop (i + 1) := by
          have := drop_at rest i 0 (by omega)
          conv => lhs; rw [← List.take_append_drop i rest, this]
        have htk := take_at rest i 0 (by omega)
        try refine gb ?_
        refine br (fun c => ?_) (fun c => ?_)
        · have hc : rest.getD i 0 = 32 := UInt8.toNat_inj.1 (show by' rest i = 32 by omega)
          rw [hc] at hsp
          have hl := cut_of (r := rest.drop (i + 1)) hr
          rw [← hsp] at hl
          rw [hl] at yes
          rw [yes rfl]
          try refine gb ?_
          refine cl (ornum_ok (rest.take i) (by rw [List.length_take]; omega)) ?_
          refine gb ?_
          rw [show ((i : Int) + 1).toNat = i + 1 by omega, show decide ((by' s 4 : Int) = 49) = decide (by' s 4 = 49) from decide_eq_decide.2 (by omega)]
          first | exact ⟨le_refl _, rfl⟩ | exact le_refl _ | trivial
        · try refine gb ?_
          refine ⟨i + 1, ⟨by omega, by rw [htk, List.mem_append, List.mem_singleton]; rintro (h | h); exact hr h; exact c (by unfold by'; rw [← h]; rfl)⟩, (by omega), fits_of (gb ?_) (gb ?_) (gb ?_) (gb ?_) (gb ?_)⟩
          · first | exact True.intro | exact ⟨rfl, rfl⟩ | exact ⟨rfl, rfl, rfl⟩ | rfl | exact rowc (List.map_id _) | trivial
          · first | exact True.intro | exact ⟨rfl, rfl⟩ | exact ⟨rfl, rfl, rfl⟩ | rfl | exact rowc (List.map_id _) | trivial
          · first | exact True.intro | exact ⟨rfl, rfl⟩ | exact ⟨rfl, rfl, rfl⟩ | rfl | exact rowc (List.map_id _) | trivial
          · first | exact True.intro | exact ⟨rfl, rfl⟩ | exact ⟨rfl, rfl, rfl⟩ | rfl | exact rowc (List.map_id _) | trivial
          · first | exact True.intro | exact ⟨rfl, rfl⟩ | exact ⟨rfl, rfl, rfl⟩ | rfl | exact rowc (List.map_id _) | trivial
      · try refine gb ?_
        rw [List.take_of_length_le (by omega)] at hr
        rw [no (cut_none hr)]
        first | exact ⟨le_refl _, rfl⟩ | exact le_refl _ | trivial
    · have c6 : by' s 4 = 49 := by omega
      repeat' (first | exact True.intro | ((exfalso; omega)) | ((exfalso; contradiction)) | (rw [hrest]) | refine br (fun h => ?_) (fun h => ?_) | refine gb ?_)
      refine lp_hd [0, 2, 4] [2] (fun i : Nat => [(5, .n .i64 (i : Int))]) (fun i : Nat => []) (fun i : Nat => i ≤ rest.length ∧ 32 ∉ rest.take i) (fun i : Nat => rest.length - i) (0) id (id) ⟨Nat.zero_le _, by simp⟩ (fits_of (gb ?_) (gb ?_) (gb ?_) (gb ?_) (gb ?_)) ?_
      · first | exact True.intro | exact ⟨rfl, rfl⟩ | exact ⟨rfl, rfl, rfl⟩ | rfl | exact rowc (List.map_id _) | trivial
      · first | exact True.intro | exact ⟨rfl, rfl⟩ | exact ⟨rfl, rfl, rfl⟩ | rfl | exact rowc (List.map_id _) | trivial
      · first | exact True.intro | exact ⟨rfl, rfl⟩ | exact ⟨rfl, rfl, rfl⟩ | rfl | exact rowc (List.map_id _) | trivial
      · first | exact True.intro | exact ⟨rfl, rfl⟩ | exact ⟨rfl, rfl, rfl⟩ | rfl | exact rowc (List.map_id _) | trivial
      · first | exact True.intro | exact ⟨rfl, rfl⟩ | exact ⟨rfl, rfl, rfl⟩ | rfl | exact rowc (List.map_id _) | trivial
      rintro i ⟨hi, hr⟩
      try refine gb ?_
      refine br (fun e => ?_) (fun e => ?_)
      · have hsp : rest = rest.take i ++ rest.getD i 0 :: rest.drop (i + 1) := by
          have := drop_at rest i 0 (by omega)
          conv => lhs; rw [← List.take_append_drop i rest, this]
        have htk := take_at rest i 0 (by omega)
        try refine gb ?_
        refine br (fun c => ?_) (fun c => ?_)
        · have hc : rest.getD i 0 = 32 := UInt8.toNat_inj.1 (show by' rest i = 32 by omega)
          rw [hc] at hsp
          have hl := cut_of (r := rest.drop (i + 1)) hr
          rw [← hsp] at hl
          rw [hl] at yes
          rw [yes rfl]
          try refine gb ?_
          refine cl (ornum_ok (rest.take i) (by rw [List.length_take]; omega)) ?_
          refine gb ?_
          rw [show ((i : Int) + 1).toNat = i + 1 by omega, show decide ((by' s 4 : Int) = 49) = decide (by' s 4 = 49) from decide_eq_decide.2 (by omega)]
          first | exact ⟨le_refl _, rfl⟩ | exact le_refl _ | trivial
        · try refine gb ?_
          refine ⟨i + 1, ⟨by omega, by rw [htk, List.mem_append, List.mem_singleton]; rintro (h | h); exact hr h; exact c (by unfold by'; rw [← h]; rfl)⟩, (by omega), fits_of (gb ?_) (gb ?_) (gb ?_) (gb ?_) (gb ?_)⟩
          · first | exact True.intro | exact ⟨rfl, rfl⟩ | exact ⟨rfl, rfl, rfl⟩ | rfl | exact rowc (List.map_id _) | trivial
          · first | exact True.intro | exact ⟨rfl, rfl⟩ | exact ⟨rfl, rfl, rfl⟩ | rfl | exact rowc (List.map_id _) | trivial
          · first | exact True.intro | exact ⟨rfl, rfl⟩ | exact ⟨rfl, rfl, rfl⟩ | rfl | exact rowc (List.map_id _) | trivial
          · first | exact True.intro | exact ⟨rfl, rfl⟩ | exact ⟨rfl, rfl, rfl⟩ | rfl | exact rowc (List.map_id _) | trivial
          · first | exact True.intro | exact ⟨rfl, rfl⟩ | exact ⟨rfl, rfl, rfl⟩ | rfl | exact rowc (List.map_id _) | trivial
      · try refine gb ?_
        rw [List.take_of_length_le (by omega)] at hr
        rw [no (cut_none hr)]
        first | exact ⟨le_refl _, rfl⟩ | exact le_refl _ | trivial
theorem lineM_len {s : List UInt8} (h : (lineM s).2.2 = true) : s.length = (lineM s).1.length + 1 + (lineM s).2.1.length := by
  have := congrArg List.length (line_eq h)
  simp at this
  omega
theorem lineM_le (s : List UInt8) : (lineM s).1.length ≤ s.length := by
  cases h : (lineM s).2.2 with
  | true => have := lineM_len h; omega
  | false =>
    unfold lineM at h ⊢
    split at h
    · rename_i h1; rw [h1] at h; cases h
    · rename_i h1; rw [if_neg h1]; exact Nat.zero_le _
theorem packM_fb (hd s : List UInt8) : ((packM hd s).1.Fit ∧ (packM hd s).1.Big) ∧ (packM hd s).2.1.length ≤ s.length := by
  unfold packM
  split
  · exact ⟨dM_fb, Nat.zero_le _⟩
  · exact ⟨parseM_fb _, by simp⟩
theorem dirM_len (s : List UInt8) : (dirM s).1.path.length ≤ s.length := by
  unfold dirM
  split
  · exact Nat.zero_le _
  · rename_i h
    simp only [not_or] at h
    have h1 := cut_len (s := s.drop 6) (c := 32) (by simpa using h.2.2.2.2)
    rw [List.length_drop] at h1
    dsimp only
    omega
set_option maxHeartbeats 8000000 in
theorem orparse_ok (s : List UInt8) (hs : s.length ≤ 60000) : Spec Tryz.prog LL 23 [.s s] (.tp [eBas (refP s).1, .n .i64 (refP s).2]) := by
  refine spec_of (C := ⟨Tryz.prog, LL, EE, []⟩) (rl := [eBas (refP s).1, .n .i64 (refP s).2]) (rs := [.cell 2 25, .tmp 3]) CCx LLs Tryz.func23 rfl (by kernel_rfl) rfl (by kernel_rfl) (Nat.le_of_ble_eq_true rfl) (fun i => rfl) (fun i => by first | rfl | exact (Bool.or_false _).trans (eSd_men _ _)) rfl (by decide) ?_
  refine gb ?_
  have no : ((lineM s).2.2 = false ∨ ¬ (lineM s).1 = [98, 97, 115, 101, 32, 49]) → refP s = (dB, 2) := fun h => by rw [refP, if_pos h]
  have yes : ¬ ((lineM s).2.2 = false ∨ ¬ (lineM s).1 = [98, 97, 115, 101, 32, 49]) → refP s = refF (s.length + 1) (lineM s).2.1 dB := fun h => by rw [refP, if_neg h]
  have hln := lineM_len (s := s)
  refine cl (orline_ok s (by omega)) ?_
  refine gb ?_
  generalize lineM s = q at no yes hln ⊢
  obtain ⟨w0, r0, ok0⟩ := q
  dsimp only at no yes hln ⊢
  cases ok0 with
  | false =>
    try refine gb ?_
    rw [no (.inl rfl)]
    exact ⟨dB_le, rfl⟩
  | true =>
    have hln := hln rfl
    try refine gb ?_
    refine br (fun a => ?_) (fun a => ?_)
    · try refine gb ?_
      rw [no (.inr a)]
      exact ⟨dB_le, rfl⟩
    · try refine gb ?_
      have h0 := yes (by simp only [not_or]; exact ⟨by simp, a⟩)
      refine lp_nilc 6 25 [.nl, .nl] 0 201 40 hMa (gb ?_) (gb ?_) (gb ?_) ?_
      · trivial
      · trivial
      · trivial
      refine lp_nilc 6 25 [.ow 201 0, .nl] 1 202 54 hSh (gb ?_) (gb ?_) (gb ?_) ?_
      · trivial
      · trivial
      · trivial
      refine lp_hr [2] [2] (fun x : Nat × List UInt8 × Bas => [(6, .p 6 0), (0, .s x.2.1)]) (fun x : Nat × List UInt8 × Bas => [(6, .cells 25 [.ow 201 x.2.2.packs.length, .ow 202 x.2.2.dirs.length]), (201, rM x.2.2.packs), (202, rSh x.2.2.dirs)]) (fun x : Nat × List UInt8 × Bas => refP s = refF x.1 x.2.1 x.2.2 ∧ x.2.1.length < x.1 ∧ x.2.2.dirs.length + x.2.1.length ≤ s.length ∧ x.2.2.packs.length ≤ 33 ∧ (∀ m ∈ x.2.2.packs, m.Fit ∧ m.Big) ∧ (∀ d ∈ x.2.2.dirs, d.path.length ≤ 60000)) (fun x : Nat × List UInt8 × Bas => x.1) ((s.length + 1, r0, dB)) id ⟨h0, by dsimp only; omega, by simp [dB]; omega, by simp [dB], by simp [dB], by simp [dB]⟩ (fits_of (gb ?_) (gb ?_) (gb ?_) (gb ?_) (gb ?_)) ?_
      · first | exact True.intro | exact ⟨rfl, rfl⟩ | exact ⟨rfl, rfl, rfl⟩ | rfl | exact rowc (List.map_id _) | trivial
      · first | exact True.intro | exact ⟨rfl, rfl⟩ | exact ⟨rfl, rfl, rfl⟩ | rfl | exact rowc (List.map_id _) | trivial
      · first | exact True.intro | exact ⟨rfl, rfl⟩ | exact ⟨rfl, rfl, rfl⟩ | rfl | exact rowc (List.map_id _) | trivial
      · first | exact True.intro | exact ⟨rfl, rfl⟩ | exact ⟨rfl, rfl, rfl⟩ | rfl | exact rowc (List.map_id _) | trivial
      · first | exact True.intro | exact ⟨rfl, rfl⟩ | exact ⟨rfl, rfl, rfl⟩ | rfl | exact rowc (List.map_id _) | trivial
      rintro ⟨k, rest, b⟩ ⟨hr, hk, hd, hp, hm, hx⟩
      dsimp only at hr hk hd hp hm hx ⊢
      have hbig : b.Big := ⟨by omega, by omega, hm, fun x h => by have := hx x h; omega⟩
      obtain ⟨k', rfl⟩ : ∃ k', k = k' + 1 := ⟨k - 1, by omega⟩
      rw [refF] at hr
      have hln2 := lineM_len (s := rest)
      have hle2 := lineM_le rest
      try refine gb ?_
      refine cl (orline_ok rest (by omega)) ?_
      refine gb ?_
      generalize lineM rest = q at hr hln2 hle2 ⊢
      obtain ⟨w, r2, okl⟩ := q
      dsimp only at hr hln2 hle2 ⊢
      cases okl with
      | false =>
        rw [if_pos (.inl rfl)] at hr
        try refine gb ?_
        rw [hr]
        exact ⟨dB_le, rfl⟩
      | true =>
        have hln2 := hln2 rfl
        try refine gb ?_
        refine br (fun c1 => ?_) (fun c1 => ?_)
        · rw [if_pos (.inr (by omega))] at hr
          try refine gb ?_
          rw [hr]
          exact ⟨dB_le, rfl⟩
        · rw [if_neg (by simp only [not_or]; exact ⟨by simp, by omega⟩)] at hr
          try refine gb ?_
          refine br (fun c2 => ?_) (fun c2 => ?_)
          · rw [if_pos (show w = wEndS from c2)] at hr
            try refine gb ?_
            refine br (fun c3 => ?_) (fun c3 => ?_)
            · try refine gb ?_
              refine cv (orcheck_ok b hbig) rfl (gb ?_) ?_
              · (first | trivial | exact ⟨le_refl _, trivial⟩ | exact le_refl _)
              refine gb ?_
              refine br (fun c4 => ?_) (fun c4 => ?_)
              · rw [if_pos (.inr (by simpa using c4))] at hr
                try refine gb ?_
                rw [hr]
                exact ⟨dB_le, rfl⟩
              · rw [if_neg (by simp only [not_or, Decidable.not_not]; exact ⟨c3, by simpa using c4⟩)] at hr
                try refine gb ?_
                rw [hr]
                exact ⟨le_refl _, rfl⟩
            · rw [if_pos (.inl c3)] at hr
              try refine gb ?_
              rw [hr]
              exact ⟨dB_le, rfl⟩
          · rw [if_neg (show ¬ w = wEndS from c2)] at hr
            by_cases c5 : 5 < w.length ∧ w.take 5 = wPackS ∧ b.dirs = []
            · rw [if_pos c5] at hr
              obtain ⟨d1, d2, d3⟩ := c5
              have d2 : w.take 5 = [112, 97, 99, 107, 32] := d2
              have d4 : b.dirs.length = 0 := by rw [d3]; rfl
              obtain ⟨hpf, hpl⟩ := packM_fb w r2
              repeat' (first | exact True.intro | (exfalso; omega) | (exfalso; contradiction) | ((rw [if_pos (by assumption)] at hr; rw [hr]; exact ⟨dB_le, rfl⟩)) | refine cl (orpack_ok w r2 (by omega) (by omega) (by omega)) (gb ?_) | refine br (fun h => ?_) (fun h => ?_) | refine gb ?_)
              rw [if_neg (by assumption)] at hr
              refine .inr ?_
              refine ⟨(k', (packM w r2).2.1, ⟨b.packs ++ [(packM w r2).1], b.dirs⟩), fun i => if i = 201 then 96 else i, ⟨hr, by dsimp only; omega, by dsimp only; omega, by simp; omega, fun m hm' => (List.mem_append.1 hm').elim (hm m) (fun e => by rw [List.mem_singleton] at e; subst e; exact hpf), hx⟩, (by dsimp only; omega), fits_of (gb ?_) (gb ?_) (gb ?_) (gb ?_) (gb ?_)⟩
              · first | exact True.intro | exact ⟨rfl, rfl⟩ | exact ⟨rfl, rfl, rfl⟩ | rfl | exact rowc (List.map_id _) | trivial
              · first | exact True.intro | exact ⟨rfl, rfl⟩ | exact ⟨rfl, rfl, rfl⟩ | rfl | exact rowc (List.map_id _) | trivial
              · first | exact True.intro | exact ⟨rfl, rfl⟩ | exact ⟨rfl, rfl, rfl⟩ | rfl | exact rowc (List.map_id _) | trivial
              · (first | trivial | exact ⟨rfl, rfl, rfl⟩ | simp)
              · first | exact True.intro | exact ⟨rfl, rfl⟩ | exact ⟨rfl, rfl, rfl⟩ | rfl | exact rowc (List.map_id _) | trivial
            · rw [if_neg c5] at hr
              have hdl := dirM_len w
              repeat' (first | exact True.intro | (exfalso; contradiction) | ((exfalso; exact c5 ⟨by omega, by assumption, List.length_eq_zero_iff.1 (by omega)⟩)) | ((rw [if_pos (by assumption)] at hr; rw [hr]; exact ⟨dB_le, rfl⟩)) | refine cl (orrdir_ok w (by omega)) (gb ?_) | refine br (fun h => ?_) (fun h => ?_) | refine gb ?_)
              all_goals rw [if_neg (by assumption)] at hr
              all_goals refine .inr ?_
              · refine ⟨(k', r2, ⟨b.packs, b.dirs ++ [(dirM w).1]⟩), fun i => if i = 202 then 43 else i, ⟨hr, by dsimp only; omega, by simp; omega, hp, hm, fun d hd' => (List.mem_append.1 hd').elim (hx d) (fun e => by rw [List.mem_singleton] at e; subst e; omega)⟩, (by dsimp only; omega), fits_of (gb ?_) (gb ?_) (gb ?_) (gb ?_) (gb ?_)⟩
                · first | exact True.intro | exact ⟨rfl, rfl⟩ | exact ⟨rfl, rfl, rfl⟩ | rfl | exact rowc (List.map_id _) | trivial
                · first | exact True.intro | exact ⟨rfl, rfl⟩ | exact ⟨rfl, rfl, rfl⟩ | rfl | exact rowc (List.map_id _) | trivial
                · first | exact True.intro | exact ⟨rfl, rfl⟩ | exact ⟨rfl, rfl, rfl⟩ | rfl | exact rowc (List.map_id _) | trivial
                · (first | trivial | exact ⟨rfl, rfl, rfl⟩ | simp)
                · first | exact True.intro | exact ⟨rfl, rfl⟩ | exact ⟨rfl, rfl, rfl⟩ | rfl | exact rowc (List.map_id _) | trivial
              · refine ⟨(k', r2, ⟨b.packs, b.dirs ++ [(dirM w).1]⟩), fun i => if i = 202 then 43 else i, ⟨hr, by dsimp only; omega, by simp; omega, hp, hm, fun d hd' => (List.mem_append.1 hd').elim (hx d) (fun e => by rw [List.mem_singleton] at e; subst e; omega)⟩, (by dsimp only; omega), fits_of (gb ?_) (gb ?_) (gb ?_) (gb ?_) (gb ?_)⟩
                · first | exact True.intro | exact ⟨rfl, rfl⟩ | exact ⟨rfl, rfl, rfl⟩ | rfl | exact rowc (List.map_id _) | trivial
                · first | exact True.intro | exact ⟨rfl, rfl⟩ | exact ⟨rfl, rfl, rfl⟩ | rfl | exact rowc (List.map_id _) | trivial
                · first | exact True.intro | exact ⟨rfl, rfl⟩ | exact ⟨rfl, rfl, rfl⟩ | rfl | exact rowc (List.map_id _) | trivial
                · (first | trivial | exact ⟨rfl, rfl, rfl⟩ | simp)
                · first | exact True.intro | exact ⟨rfl, rfl⟩ | exact ⟨rfl, rfl, rfl⟩ | rfl | exact rowc (List.map_id _) | trivial
              · refine ⟨(k', r2, ⟨b.packs, b.dirs ++ [(dirM w).1]⟩), fun i => if i = 202 then 43 else i, ⟨hr, by dsimp only; omega, by simp; omega, hp, hm, fun d hd' => (List.mem_append.1 hd').elim (hx d) (fun e => by rw [List.mem_singleton] at e; subst e; omega)⟩, (by dsimp only; omega), fits_of (gb ?_) (gb ?_) (gb ?_) (gb ?_) (gb ?_)⟩
                · first | exact True.intro | exact ⟨rfl, rfl⟩ | exact ⟨rfl, rfl, rfl⟩ | rfl | exact rowc (List.map_id _) | trivial
                · first | exact True.intro | exact ⟨rfl, rfl⟩ | exact ⟨rfl, rfl, rfl⟩ | rfl | exact rowc (List.map_id _) | trivial
                · first | exact True.intro | exact ⟨rfl, rfl⟩ | exact ⟨rfl, rfl, rfl⟩ | rfl | exact rowc (List.map_id _) | trivial
                · (first | trivial | exact ⟨rfl, rfl, rfl⟩ | simp)
                · first | exact True.intro | exact ⟨rfl, rfl⟩ | exact ⟨rfl, rfl, rfl⟩ | rfl | exact rowc (List.map_id _) | trivial
end Go.Proofs.YtagjeabdcjcchaaGreatDoor.Ev
