/- Databases: the document's answers: whether one may be. -/
import Derived.Test.YtagjeabdcjcchaaGreatDoorPC
import Derived.Test.YtagjeabdcjcchaaGreatDoorVC
import Derived.Test.YtagjeabdcjcchaaGreatDoorPD
import Derived.Test.YtagjeabdcjcchaaGreatDoorPE
set_option linter.all false
namespace Go.Proofs.YtagjeabdcjcchaaGreatDoor.Ev
open Go.RowKit
open Go.Proofs.YtagjeabdcjcchaaGreatDoor.Mem
set_option linter.unusedVariables false
set_option linter.unusedSimpArgs false
set_option maxRecDepth 100000
theorem orhas_ok (m : Man) (w : List UInt8) (hl : m.ents.length ≤ 100000000000000) : Spec Tryz.prog LL 16 [eMan m, .s w] (.tp [eEnt (hasM m.ents w).1, .b (hasM m.ents w).2]) := by
  refine spec_of (C := ⟨Tryz.prog, LL, EE, []⟩) (rl := [eEnt (hasM m.ents w).1, .b (hasM m.ents w).2]) (rs := [.cell 4 34, .tmp 5]) CCx LLs Tryz.func16 rfl (by kernel_rfl) rfl (by kernel_rfl) (Nat.le_of_ble_eq_true rfl) (fun i => rfl) (fun i => by first | rfl | exact (Bool.or_false _).trans (eSd_men _ _)) rfl (by decide) ?_
  refine gb ?_
  refine lp_hd [1, 2, 4] [2, 4] (fun i : Nat => [(6, .n .i64 (i : Int))]) (fun i : Nat => []) (fun i : Nat => i ≤ m.ents.length ∧ hasM m.ents w = hasM (m.ents.drop i) w) (fun i : Nat => m.ents.length - i) (0) id (id) ⟨Nat.zero_le _, rfl⟩ (fits_of (gb ?_) (gb ?_) (gb ?_) (gb ?_) (gb ?_)) ?_
  · first | exact True.intro | exact ⟨rfl, rfl⟩ | exact ⟨rfl, rfl, rfl⟩ | rfl | exact rowc (List.map_id _) | trivial
  · first | exact True.intro | exact ⟨rfl, rfl⟩ | exact ⟨rfl, rfl, rfl⟩ | rfl | exact rowc (List.map_id _) | trivial
  · first | exact True.intro | exact ⟨rfl, rfl⟩ | exact ⟨rfl, rfl, rfl⟩ | rfl | exact rowc (List.map_id _) | trivial
  · first | exact True.intro | exact ⟨rfl, rfl⟩ | exact ⟨rfl, rfl, rfl⟩ | rfl | exact rowc (List.map_id _) | trivial
  · first | exact True.intro | exact ⟨rfl, rfl⟩ | exact ⟨rfl, rfl, rfl⟩ | rfl | exact rowc (List.map_id _) | trivial
  rintro i ⟨hi, hr⟩
  try refine gb ?_
  refine br (fun e => ?_) (fun e => ?_)
  · have hd := drop_at m.ents i dE (by omega)
    rw [hd, hasM] at hr
    clear hd
    try refine gb ?_
    refine br (fun c => ?_) (fun c => ?_)
    · rw [if_pos c] at hr
      try refine gb ?_
      rw [hr]
      exact ⟨le_refl _, rfl⟩
    · rw [if_neg c] at hr
      try refine gb ?_
      refine ⟨i + 1, ⟨by omega, hr⟩, (by omega), fits_of (gb ?_) (gb ?_) (gb ?_) (gb ?_) (gb ?_)⟩
      · first | exact True.intro | exact ⟨rfl, rfl⟩ | exact ⟨rfl, rfl, rfl⟩ | rfl | exact rowc (List.map_id _) | trivial
      · first | exact True.intro | exact ⟨rfl, rfl⟩ | exact ⟨rfl, rfl, rfl⟩ | rfl | exact rowc (List.map_id _) | trivial
      · first | exact True.intro | exact ⟨rfl, rfl⟩ | exact ⟨rfl, rfl, rfl⟩ | rfl | exact rowc (List.map_id _) | trivial
      · first | exact True.intro | exact ⟨rfl, rfl⟩ | exact ⟨rfl, rfl, rfl⟩ | rfl | exact rowc (List.map_id _) | trivial
      · first | exact True.intro | exact ⟨rfl, rfl⟩ | exact ⟨rfl, rfl, rfl⟩ | rfl | exact rowc (List.map_id _) | trivial
  · try refine gb ?_
    rw [hr, List.drop_eq_nil_of_le (by omega)]
    exact ⟨le_refl _, rfl⟩
theorem orfind_ok (b : Bas) (w : List UInt8) (hb : b.Big) : Spec Tryz.prog LL 18 [eBas b, .s w] (.tp [eMan (findM b.packs w).1, .b (findM b.packs w).2]) := by
  refine spec_of (C := ⟨Tryz.prog, LL, EE, []⟩) (rl := [eMan (findM b.packs w).1, .b (findM b.packs w).2]) (rs := [.cell 4 40, .tmp 5]) CCx LLs Tryz.func18 rfl (by kernel_rfl) rfl (by kernel_rfl) (Nat.le_of_ble_eq_true rfl) (fun i => rfl) (fun i => by first | rfl | exact (Bool.or_false _).trans (eSd_men _ _)) rfl (by decide) ?_
  refine gb ?_
  have hbp := hb.p
  refine lp_hd [1, 2, 4] [2, 4] (fun i : Nat => [(6, .n .i64 (i : Int))]) (fun i : Nat => []) (fun i : Nat => i ≤ b.packs.length ∧ findM b.packs w = findM (b.packs.drop i) w) (fun i : Nat => b.packs.length - i) (0) id (id) ⟨Nat.zero_le _, rfl⟩ (fits_of (gb ?_) (gb ?_) (gb ?_) (gb ?_) (gb ?_)) ?_
  · first | exact True.intro | exact ⟨rfl, rfl⟩ | exact ⟨rfl, rfl, rfl⟩ | rfl | exact rowc (List.map_id _) | trivial
  · first | exact True.intro | exact ⟨rfl, rfl⟩ | exact ⟨rfl, rfl, rfl⟩ | rfl | exact rowc (List.map_id _) | trivial
  · first | exact True.intro | exact ⟨rfl, rfl⟩ | exact ⟨rfl, rfl, rfl⟩ | rfl | exact rowc (List.map_id _) | trivial
  · first | exact True.intro | exact ⟨rfl, rfl⟩ | exact ⟨rfl, rfl, rfl⟩ | rfl | exact rowc (List.map_id _) | trivial
  · first | exact True.intro | exact ⟨rfl, rfl⟩ | exact ⟨rfl, rfl, rfl⟩ | rfl | exact rowc (List.map_id _) | trivial
  rintro i ⟨hi, hr⟩
  try refine gb ?_
  refine br (fun e => ?_) (fun e => ?_)
  · rw [drop_at b.packs i dMn (by omega), findM] at hr
    try refine gb ?_
    refine br (fun c => ?_) (fun c => ?_)
    · rw [if_pos c] at hr
      try refine gb ?_
      rw [hr]
      exact ⟨le_refl _, rfl⟩
    · rw [if_neg c] at hr
      try refine gb ?_
      refine ⟨i + 1, ⟨by omega, hr⟩, (by omega), fits_of (gb ?_) (gb ?_) (gb ?_) (gb ?_) (gb ?_)⟩
      · first | exact True.intro | exact ⟨rfl, rfl⟩ | exact ⟨rfl, rfl, rfl⟩ | rfl | exact rowc (List.map_id _) | trivial
      · first | exact True.intro | exact ⟨rfl, rfl⟩ | exact ⟨rfl, rfl, rfl⟩ | rfl | exact rowc (List.map_id _) | trivial
      · first | exact True.intro | exact ⟨rfl, rfl⟩ | exact ⟨rfl, rfl, rfl⟩ | rfl | exact rowc (List.map_id _) | trivial
      · first | exact True.intro | exact ⟨rfl, rfl⟩ | exact ⟨rfl, rfl, rfl⟩ | rfl | exact rowc (List.map_id _) | trivial
      · first | exact True.intro | exact ⟨rfl, rfl⟩ | exact ⟨rfl, rfl, rfl⟩ | rfl | exact rowc (List.map_id _) | trivial
  · try refine gb ?_
    rw [hr, List.drop_eq_nil_of_le (by omega)]
    exact ⟨dM_le, rfl⟩
theorem orowner_ok (b : Bas) (w : List UInt8) (hb : b.Big) : Spec Tryz.prog LL 14 [eBas b, .s w] (.tp [.s (ownM b.packs w).1, .b (ownM b.packs w).2]) := by
  refine spec_of (C := ⟨Tryz.prog, LL, EE, []⟩) (rl := [.s (ownM b.packs w).1, .b (ownM b.packs w).2]) (rs := [.tmp 4, .tmp 5]) CCx LLs Tryz.func14 rfl (by kernel_rfl) rfl (by kernel_rfl) (Nat.le_of_ble_eq_true rfl) (fun i => rfl) (fun i => by first | rfl | exact (Bool.or_false _).trans (eSd_men _ _)) rfl (by decide) ?_
  refine gb ?_
  have hbp := hb.p
  refine lp_hd [1, 2] [2] (fun i : Nat => [(6, .n .i64 (i : Int))]) (fun i : Nat => []) (fun i : Nat => i ≤ b.packs.length ∧ ownM b.packs w = ownM (b.packs.drop i) w) (fun i : Nat => b.packs.length - i) (0) id (id) ⟨Nat.zero_le _, rfl⟩ (fits_of (gb ?_) (gb ?_) (gb ?_) (gb ?_) (gb ?_)) ?_
  · first | exact True.intro | exact ⟨rfl, rfl⟩ | exact ⟨rfl, rfl, rfl⟩ | rfl | exact rowc (List.map_id _) | trivial
  · first | exact True.intro | exact ⟨rfl, rfl⟩ | exact ⟨rfl, rfl, rfl⟩ | rfl | exact rowc (List.map_id _) | trivial
  · first | exact True.intro | exact ⟨rfl, rfl⟩ | exact ⟨rfl, rfl, rfl⟩ | rfl | exact rowc (List.map_id _) | trivial
  · first | exact True.intro | exact ⟨rfl, rfl⟩ | exact ⟨rfl, rfl, rfl⟩ | rfl | exact rowc (List.map_id _) | trivial
  · first | exact True.intro | exact ⟨rfl, rfl⟩ | exact ⟨rfl, rfl, rfl⟩ | rfl | exact rowc (List.map_id _) | trivial
  rintro i ⟨hi, hr⟩
  try refine gb ?_
  refine br (fun e => ?_) (fun e => ?_)
  · rw [drop_at b.packs i dMn (by omega), ownM] at hr
    have hm := hb.m _ (getD_mem (x := dMn) (show i < b.packs.length by omega))
    try refine gb ?_
    refine cl (orhas_ok (b.packs.getD i dMn) w hm.1.el) ?_
    refine gb ?_
    unfold fileB at hr
    repeat' (first | exact True.intro | (simp_all; done) | (refine ⟨i + 1, ⟨by omega, by rw [hr]; simp_all⟩, (by omega), fits_of (gb ?_) (gb ?_) (gb ?_) (gb ?_) (gb ?_)⟩ <;> (first | exact True.intro | exact ⟨rfl, rfl⟩ | exact ⟨rfl, rfl, rfl⟩ | rfl | exact rowc (List.map_id _) | trivial); done) | refine br (fun h => ?_) (fun h => ?_) | refine gb ?_)
  · try refine gb ?_
    rw [hr, List.drop_eq_nil_of_le (by omega)]
    exact ⟨rfl, rfl⟩
def dirI : List Shr → List UInt8 → Int → Int
  | [], _, _ => -1
  | x :: r, w, k => if x.path = w then k else dirI r w (k + 1)
theorem dirI_ix : ∀ (l : List Shr) (w : List UInt8) (k : Int), 0 ≤ k → (dirI l w k < 0 ↔ dirIx l w = false)
  | [], w, k, h => by simp [dirI, dirIx]
  | x :: r, w, k, h => by
    unfold dirI
    by_cases c : x.path = w
    · rw [if_pos c]; simp [dirIx, c]; omega
    · rw [if_neg c, dirI_ix r w (k + 1) (by omega)]; simp [dirIx, c]
theorem ordir_ok (l : List Shr) (w : List UInt8) (hl : l.length ≤ 100000000000000) : Spec Tryz.prog LL 38 [.sl 3 Shr dS l eShr, .s w] (.n .i64 (dirI l w 0)) := by
  refine spec_of (C := ⟨Tryz.prog, LL, EE, []⟩) (rl := [.n .i64 (dirI l w 0)]) (rs := [.tmp 4]) CCx LLs Tryz.func38 rfl (by kernel_rfl) rfl (by kernel_rfl) (Nat.le_of_ble_eq_true rfl) (fun i => rfl) (fun i => by first | rfl | exact (Bool.or_false _).trans (eSd_men _ _)) rfl (by decide) ?_
  refine gb ?_
  refine lp_hd [0, 1] [] (fun i : Nat => [(5, .n .i64 (i : Int))]) (fun i : Nat => []) (fun i : Nat => i ≤ l.length ∧ dirI l w 0 = dirI (l.drop i) w i) (fun i : Nat => l.length - i) (0) id (id) ⟨Nat.zero_le _, rfl⟩ (fits_of (gb ?_) (gb ?_) (gb ?_) (gb ?_) (gb ?_)) ?_
  · first | exact True.intro | exact ⟨rfl, rfl⟩ | exact ⟨rfl, rfl, rfl⟩ | rfl | exact rowc (List.map_id _) | trivial
  · first | exact True.intro | exact ⟨rfl, rfl⟩ | exact ⟨rfl, rfl, rfl⟩ | rfl | exact rowc (List.map_id _) | trivial
  · first | exact True.intro | exact ⟨rfl, rfl⟩ | exact ⟨rfl, rfl, rfl⟩ | rfl | exact rowc (List.map_id _) | trivial
  · first | exact True.intro | exact ⟨rfl, rfl⟩ | exact ⟨rfl, rfl, rfl⟩ | rfl | exact rowc (List.map_id _) | trivial
  · first | exact True.intro | exact ⟨rfl, rfl⟩ | exact ⟨rfl, rfl, rfl⟩ | rfl | exact rowc (List.map_id _) | trivial
  rintro i ⟨hi, hr⟩
  try refine gb ?_
  refine br (fun e => ?_) (fun e => ?_)
  · rw [drop_at l i dS (by omega), dirI] at hr
    try refine gb ?_
    generalize l.getD i dS = x at hr
    refine br (fun c => ?_) (fun c => ?_)
    · rw [if_pos c] at hr
      try refine gb ?_
      trivial
    · rw [if_neg c] at hr
      try refine gb ?_
      refine ⟨i + 1, ⟨by omega, by rw [hr]; simp⟩, (by omega), fits_of (gb ?_) (gb ?_) (gb ?_) (gb ?_) (gb ?_)⟩
      · first | exact True.intro | exact ⟨rfl, rfl⟩ | exact ⟨rfl, rfl, rfl⟩ | rfl | exact rowc (List.map_id _) | trivial
      · first | exact True.intro | exact ⟨rfl, rfl⟩ | exact ⟨rfl, rfl, rfl⟩ | rfl | exact rowc (List.map_id _) | trivial
      · first | exact True.intro | exact ⟨rfl, rfl⟩ | exact ⟨rfl, rfl, rfl⟩ | rfl | exact rowc (List.map_id _) | trivial
      · first | exact True.intro | exact ⟨rfl, rfl⟩ | exact ⟨rfl, rfl, rfl⟩ | rfl | exact rowc (List.map_id _) | trivial
      · first | exact True.intro | exact ⟨rfl, rfl⟩ | exact ⟨rfl, rfl, rfl⟩ | rfl | exact rowc (List.map_id _) | trivial
  · try refine gb ?_
    rw [hr, List.drop_eq_nil_of_le (by omega)]
    trivial
theorem orrefs_ok (b : Bas) (w : List UInt8) (hb : b.Big) : Spec Tryz.prog LL 39 [eBas b, .s w] (.n .i64 (refsM b.packs w : Nat)) := by
  refine spec_of (C := ⟨Tryz.prog, LL, EE, []⟩) (rl := [.n .i64 (refsM b.packs w : Nat)]) (rs := [.tmp 4]) CCx LLs Tryz.func39 rfl (by kernel_rfl) rfl (by kernel_rfl) (Nat.le_of_ble_eq_true rfl) (fun i => rfl) (fun i => by first | rfl | exact (Bool.or_false _).trans (eSd_men _ _)) rfl (by decide) ?_
  refine gb ?_
  have hbp := hb.p
  refine lp_hd [1, 2] [2] (fun x : Nat × Nat => [(5, .n .i64 (x.2 : Int)), (6, .n .i64 (x.1 : Int))]) (fun x : Nat × Nat => []) (fun x : Nat × Nat => x.1 ≤ b.packs.length ∧ x.2 ≤ x.1 ∧ refsM b.packs w = x.2 + refsM (b.packs.drop x.1) w) (fun x : Nat × Nat => b.packs.length - x.1) ((0, 0)) id (id) ⟨Nat.zero_le _, Nat.le_refl _, by simp⟩ (fits_of (gb ?_) (gb ?_) (gb ?_) (gb ?_) (gb ?_)) ?_
  · first | exact True.intro | exact ⟨rfl, rfl⟩ | exact ⟨rfl, rfl, rfl⟩ | rfl | exact rowc (List.map_id _) | trivial
  · first | exact True.intro | exact ⟨rfl, rfl⟩ | exact ⟨rfl, rfl, rfl⟩ | rfl | exact rowc (List.map_id _) | trivial
  · first | exact True.intro | exact ⟨rfl, rfl⟩ | exact ⟨rfl, rfl, rfl⟩ | rfl | exact rowc (List.map_id _) | trivial
  · first | exact True.intro | exact ⟨rfl, rfl⟩ | exact ⟨rfl, rfl, rfl⟩ | rfl | exact rowc (List.map_id _) | trivial
  · first | exact True.intro | exact ⟨rfl, rfl⟩ | exact ⟨rfl, rfl, rfl⟩ | rfl | exact rowc (List.map_id _) | trivial
  rintro ⟨i, n⟩ ⟨hi, hn, hr⟩
  dsimp only at hi hn hr ⊢
  try refine gb ?_
  refine br (fun e => ?_) (fun e => ?_)
  · rw [drop_at b.packs i dMn (by omega)] at hr
    have hm := hb.m _ (getD_mem (x := dMn) (show i < b.packs.length by omega))
    have hcons : ∀ (x : Man) (r : List Man), refsM (x :: r) w = (if dirB2 x.ents w = true then 1 else 0) + refsM r w := fun x r => by
      unfold refsM
      rw [List.filter_cons]
      split <;> simp <;> omega
    rw [hcons] at hr
    try refine gb ?_
    generalize b.packs.getD i dMn = x at hr hm
    refine cl (orhas_ok x w hm.1.el) ?_
    refine gb ?_
    unfold dirB2 at hr
    repeat' (first | exact True.intro | (refine ⟨(i + 1, n + 1), ⟨by dsimp only; omega, by dsimp only; omega, by dsimp only; rw [hr, if_pos (by simp_all)]; omega⟩, (by dsimp only; omega), fits_of (gb ?_) (gb ?_) (gb ?_) (gb ?_) (gb ?_)⟩ <;> (first | exact True.intro | exact ⟨rfl, rfl⟩ | exact ⟨rfl, rfl, rfl⟩ | rfl | exact rowc (List.map_id _) | trivial); done) | (refine ⟨(i + 1, n), ⟨by dsimp only; omega, by dsimp only; omega, by dsimp only; rw [hr, if_neg (by simp_all)]; omega⟩, (by dsimp only; omega), fits_of (gb ?_) (gb ?_) (gb ?_) (gb ?_) (gb ?_)⟩ <;> (first | exact True.intro | exact ⟨rfl, rfl⟩ | exact ⟨rfl, rfl, rfl⟩ | rfl | exact rowc (List.map_id _) | trivial); done) | refine br (fun h => ?_) (fun h => ?_) | refine gb ?_)
  · try refine gb ?_
    rw [hr, List.drop_eq_nil_of_le (by omega)]
    simp [refsM]
def entR (b : Bas) (n : List UInt8) (x : Ent) : Prop := (x.kind = 2 → (ownM b.packs x.path).2 = false ∧ dirIx b.dirs x.path = true) ∧ (¬ x.kind = 2 → (ownM b.packs x.path).1 = n)
open Classical in
set_option maxHeartbeats 4000000 in
theorem orcheck_ok (b : Bas) (hb : b.Big) : Spec Tryz.prog LL 20 [eBas b] (.b (decide (BasOk b))) := by
  refine spec_of (C := ⟨Tryz.prog, LL, EE, []⟩) (rl := [.b (decide (BasOk b))]) (rs := [.tmp 2]) CCx LLs Tryz.func20 rfl (by kernel_rfl) rfl (by kernel_rfl) (Nat.le_of_ble_eq_true rfl) (fun i => rfl) (fun i => by first | rfl | exact (Bool.or_false _).trans (eSd_men _ _)) rfl (by decide) ?_
  refine gb ?_
  have hbp := hb.p
  have hbd := hb.d
  refine br (fun a => ?_) (fun a => ?_)
  · try refine gb ?_
    refine br (fun a2 => ?_) (fun a2 => ?_)
    · try refine gb ?_
      rw [decide_eq_false fun h : BasOk b => absurd ((ref_ok (bas_pk h)).1 h).dl (by omega)]
    · try refine gb ?_
      refine lp_hd [1] [1] (fun i : Nat => [(3, .n .i64 (i : Int))]) (fun i : Nat => []) (fun i : Nat => i ≤ b.packs.length ∧ ∀ j, j < i → checkM (b.packs.getD j dMn) = 0 ∧ (0 < j → lt' (b.packs.getD (j - 1) dMn).name (b.packs.getD j dMn).name = true)) (fun i : Nat => b.packs.length - i) (0) id (id) ⟨Nat.zero_le _, fun j h => absurd h (Nat.not_lt_zero _)⟩ (fits_of (gb ?_) (gb ?_) (gb ?_) (gb ?_) (gb ?_)) ?_
      · first | exact True.intro | exact ⟨rfl, rfl⟩ | exact ⟨rfl, rfl, rfl⟩ | rfl | exact rowc (List.map_id _) | trivial
      · first | exact True.intro | exact ⟨rfl, rfl⟩ | exact ⟨rfl, rfl, rfl⟩ | rfl | exact rowc (List.map_id _) | trivial
      · first | exact True.intro | exact ⟨rfl, rfl⟩ | exact ⟨rfl, rfl, rfl⟩ | rfl | exact rowc (List.map_id _) | trivial
      · first | exact True.intro | exact ⟨rfl, rfl⟩ | exact ⟨rfl, rfl, rfl⟩ | rfl | exact rowc (List.map_id _) | trivial
      · first | exact True.intro | exact ⟨rfl, rfl⟩ | exact ⟨rfl, rfl, rfl⟩ | rfl | exact rowc (List.map_id _) | trivial
      rintro i ⟨hi, hr⟩
      try refine gb ?_
      refine br (fun e => ?_) (fun e => ?_)
      · have hi2 : i < b.packs.length := by omega
        have hm : b.packs.getD i dMn ∈ b.packs := getD_mem hi2
        have no1 : ¬ checkM (b.packs.getD i dMn) = 0 → false = decide (BasOk b) := fun h => (decide_eq_false fun hp : BasOk b => h (hp.chk _ hm)).symm
        have no2 : 0 < i → lt' (b.packs.getD (i - 1) dMn).name (b.packs.getD i dMn).name = false → false = decide (BasOk b) := fun h0 h => (decide_eq_false fun hp : BasOk b => by
          have := (ris_map (·.name) b.packs dMn).2 hp.names i h0 hi2
          rw [h] at this; cases this).symm
        have yes : checkM (b.packs.getD i dMn) = 0 → (0 < i → lt' (b.packs.getD (i - 1) dMn).name (b.packs.getD i dMn).name = true) → ∀ j, j < i + 1 → checkM (b.packs.getD j dMn) = 0 ∧ (0 < j → lt' (b.packs.getD (j - 1) dMn).name (b.packs.getD j dMn).name = true) := fun h1 h2 j hj => by
          rcases Nat.lt_or_ge j i with h | h
          · exact hr j h
          · rw [show j = i by omega]; exact ⟨h1, h2⟩
        have hf := (hb.m _ hm).1
        clear hr
        try refine gb ?_
        refine cd (rcheck_ok (b.packs.getD i dMn) hf) ?_
        refine gb ?_
        repeat' (first | exact True.intro | (exact no1 (by assumption)) | (exact no2 (by omega) (by simp_all)) | (refine ⟨i + 1, ⟨by omega, yes (by first | assumption | omega | simp_all) (fun _ => by first | omega | simp_all)⟩, (by omega), fits_of (gb ?_) (gb ?_) (gb ?_) (gb ?_) (gb ?_)⟩ <;> (first | exact True.intro | exact ⟨rfl, rfl⟩ | exact ⟨rfl, rfl, rfl⟩ | rfl | exact rowc (List.map_id _) | trivial); done) | (rw [show ((i : Int) - 1).toNat = i - 1 by omega]) | refine br (fun h => ?_) (fun h => ?_) | refine gb ?_)
      · have hpk : PkOk b.packs := by
          refine ⟨by omega, fun m hm => ?_, (ris_map (·.name) b.packs dMn).1 fun j h0 hj => (hr j (by omega)).2 h0⟩
          obtain ⟨j, hj, rfl⟩ := List.getElem_of_mem hm
          have := (hr j (by omega)).1
          rwa [getD_get hj] at this
        have hbo : BasOk b ↔ RfOk b := ref_ok hpk
        clear hr
        try refine gb ?_
        refine lp_hd [1] [1] (fun i : Nat => [(4, .n .i64 (i : Int))]) (fun i : Nat => []) (fun i : Nat => i ≤ b.packs.length ∧ ∀ j, j < i → ∀ x ∈ (b.packs.getD j dMn).ents, entR b (b.packs.getD j dMn).name x) (fun i : Nat => b.packs.length - i) (0) id (id) ⟨Nat.zero_le _, fun j h => absurd h (Nat.not_lt_zero _)⟩ (fits_of (gb ?_) (gb ?_) (gb ?_) (gb ?_) (gb ?_)) ?_
        · first | exact True.intro | exact ⟨rfl, rfl⟩ | exact ⟨rfl, rfl, rfl⟩ | rfl | exact rowc (List.map_id _) | trivial
        · first | exact True.intro | exact ⟨rfl, rfl⟩ | exact ⟨rfl, rfl, rfl⟩ | rfl | exact rowc (List.map_id _) | trivial
        · first | exact True.intro | exact ⟨rfl, rfl⟩ | exact ⟨rfl, rfl, rfl⟩ | rfl | exact rowc (List.map_id _) | trivial
        · first | exact True.intro | exact ⟨rfl, rfl⟩ | exact ⟨rfl, rfl, rfl⟩ | rfl | exact rowc (List.map_id _) | trivial
        · first | exact True.intro | exact ⟨rfl, rfl⟩ | exact ⟨rfl, rfl, rfl⟩ | rfl | exact rowc (List.map_id _) | trivial
        rintro i ⟨hi, hr⟩
        try refine gb ?_
        refine br (fun e => ?_) (fun e => ?_)
        · have hi2 : i < b.packs.length := by omega
          have hm : b.packs.getD i dMn ∈ b.packs := getD_mem hi2
          have hel := (hb.m _ hm).1.el
          have no : ∀ x ∈ (b.packs.getD i dMn).ents, ¬ entR b (b.packs.getD i dMn).name x → false = decide (BasOk b) := fun x hx h => (decide_eq_false fun hk : BasOk b => h ((hbo.1 hk).ent _ hm x hx)).symm
          try refine gb ?_
          refine lp_hd [1, 4] [1] (fun k : Nat => [(5, .n .i64 (k : Int))]) (fun k : Nat => []) (fun k : Nat => k ≤ (b.packs.getD i dMn).ents.length ∧ ∀ j, j < k → entR b (b.packs.getD i dMn).name ((b.packs.getD i dMn).ents.getD j dE)) (fun k : Nat => (b.packs.getD i dMn).ents.length - k) (0) id (id) ⟨Nat.zero_le _, fun j h => absurd h (Nat.not_lt_zero _)⟩ (fits_of (gb ?_) (gb ?_) (gb ?_) (gb ?_) (gb ?_)) ?_
          · first | exact True.intro | exact ⟨rfl, rfl⟩ | exact ⟨rfl, rfl, rfl⟩ | rfl | exact rowc (List.map_id _) | trivial
          · first | exact True.intro | exact ⟨rfl, rfl⟩ | exact ⟨rfl, rfl, rfl⟩ | rfl | exact rowc (List.map_id _) | trivial
          · first | exact True.intro | exact ⟨rfl, rfl⟩ | exact ⟨rfl, rfl, rfl⟩ | rfl | exact rowc (List.map_id _) | trivial
          · first | exact True.intro | exact ⟨rfl, rfl⟩ | exact ⟨rfl, rfl, rfl⟩ | rfl | exact rowc (List.map_id _) | trivial
          · first | exact True.intro | exact ⟨rfl, rfl⟩ | exact ⟨rfl, rfl, rfl⟩ | rfl | exact rowc (List.map_id _) | trivial
          rintro k ⟨hk, hr2⟩
          try refine gb ?_
          refine br (fun e2 => ?_) (fun e2 => ?_)
          · have hx : (b.packs.getD i dMn).ents.getD k dE ∈ (b.packs.getD i dMn).ents := getD_mem (by omega)
            have no := no _ hx
            have yes : entR b (b.packs.getD i dMn).name ((b.packs.getD i dMn).ents.getD k dE) → ∀ j, j < k + 1 → entR b (b.packs.getD i dMn).name ((b.packs.getD i dMn).ents.getD j dE) := fun h j hj => by
              rcases Nat.lt_or_ge j k with h' | h'
              · exact hr2 j h'
              · rw [show j = k by omega]; exact h
            have hdi := dirI_ix b.dirs ((b.packs.getD i dMn).ents.getD k dE).path 0 (Int.le_refl 0)
            unfold entR at no yes
            clear hr hr2 hbo hx
            try refine gb ?_
            refine cl (orowner_ok b ((b.packs.getD i dMn).ents.getD k dE).path hb) ?_
            refine gb ?_
            repeat' (first | exact True.intro | (exfalso; omega) | (exfalso; contradiction) | (exact no (by simp_all; done)) | (refine ⟨k + 1, ⟨by omega, yes (by simp_all; done)⟩, (by omega), fits_of (gb ?_) (gb ?_) (gb ?_) (gb ?_) (gb ?_)⟩ <;> (first | exact True.intro | exact ⟨rfl, rfl⟩ | exact ⟨rfl, rfl, rfl⟩ | rfl | exact rowc (List.map_id _) | trivial); done) | refine cl (ordir_ok b.dirs ((b.packs.getD i dMn).ents.getD k dE).path (by omega)) (gb ?_) | refine br (fun h => ?_) (fun h => ?_) | refine gb ?_)
          · try refine gb ?_
            have hnx : ∀ j, j < i + 1 → ∀ x ∈ (b.packs.getD j dMn).ents, entR b (b.packs.getD j dMn).name x := fun j hj => by
              rcases Nat.lt_or_ge j i with h | h
              · exact hr j h
              · rw [show j = i by omega]
                intro x hx
                obtain ⟨q, hq, rfl⟩ := List.getElem_of_mem hx
                have := hr2 q (by omega)
                rwa [getD_get hq] at this
            refine ⟨i + 1, ⟨by omega, hnx⟩, (by omega), fits_of (gb ?_) (gb ?_) (gb ?_) (gb ?_) (gb ?_)⟩
            · first | exact True.intro | exact ⟨rfl, rfl⟩ | exact ⟨rfl, rfl, rfl⟩ | rfl | exact rowc (List.map_id _) | trivial
            · first | exact True.intro | exact ⟨rfl, rfl⟩ | exact ⟨rfl, rfl, rfl⟩ | rfl | exact rowc (List.map_id _) | trivial
            · first | exact True.intro | exact ⟨rfl, rfl⟩ | exact ⟨rfl, rfl, rfl⟩ | rfl | exact rowc (List.map_id _) | trivial
            · first | exact True.intro | exact ⟨rfl, rfl⟩ | exact ⟨rfl, rfl, rfl⟩ | rfl | exact rowc (List.map_id _) | trivial
            · first | exact True.intro | exact ⟨rfl, rfl⟩ | exact ⟨rfl, rfl, rfl⟩ | rfl | exact rowc (List.map_id _) | trivial
        · have hent : ∀ m ∈ b.packs, ∀ x ∈ m.ents, entR b m.name x := fun m hm x hx => by
            obtain ⟨q, hq, rfl⟩ := List.getElem_of_mem hm
            have := hr q (by omega)
            rw [getD_get hq] at this
            exact this x hx
          clear hr
          try refine gb ?_
          refine lp_hd [1] [1] (fun i : Nat => [(9, .n .i64 (i : Int))]) (fun i : Nat => []) (fun i : Nat => i ≤ b.dirs.length ∧ ∀ j, j < i → (1 ≤ (b.dirs.getD j dS).refs ∧ (b.dirs.getD j dS).refs = (refsM b.packs (b.dirs.getD j dS).path : Nat)) ∧ (0 < j → lt' (b.dirs.getD (j - 1) dS).path (b.dirs.getD j dS).path = true)) (fun i : Nat => b.dirs.length - i) (0) id (id) ⟨Nat.zero_le _, fun j h => absurd h (Nat.not_lt_zero _)⟩ (fits_of (gb ?_) (gb ?_) (gb ?_) (gb ?_) (gb ?_)) ?_
          · first | exact True.intro | exact ⟨rfl, rfl⟩ | exact ⟨rfl, rfl, rfl⟩ | rfl | exact rowc (List.map_id _) | trivial
          · first | exact True.intro | exact ⟨rfl, rfl⟩ | exact ⟨rfl, rfl, rfl⟩ | rfl | exact rowc (List.map_id _) | trivial
          · first | exact True.intro | exact ⟨rfl, rfl⟩ | exact ⟨rfl, rfl, rfl⟩ | rfl | exact rowc (List.map_id _) | trivial
          · first | exact True.intro | exact ⟨rfl, rfl⟩ | exact ⟨rfl, rfl, rfl⟩ | rfl | exact rowc (List.map_id _) | trivial
          · first | exact True.intro | exact ⟨rfl, rfl⟩ | exact ⟨rfl, rfl, rfl⟩ | rfl | exact rowc (List.map_id _) | trivial
          rintro i ⟨hi, hr⟩
          try refine gb ?_
          refine br (fun e => ?_) (fun e => ?_)
          · have hi2 : i < b.dirs.length := by omega
            have hm : b.dirs.getD i dS ∈ b.dirs := getD_mem hi2
            have no1 : ¬ (1 ≤ (b.dirs.getD i dS).refs ∧ (b.dirs.getD i dS).refs = (refsM b.packs (b.dirs.getD i dS).path : Nat)) → false = decide (BasOk b) := fun h => (decide_eq_false fun hp : BasOk b => h ((hbo.1 hp).dir _ hm)).symm
            have no2 : 0 < i → lt' (b.dirs.getD (i - 1) dS).path (b.dirs.getD i dS).path = false → false = decide (BasOk b) := fun h0 h => (decide_eq_false fun hp : BasOk b => by
              have := (ris_map (·.path) b.dirs dS).2 hp.paths i h0 hi2
              rw [h] at this; cases this).symm
            have yes : (1 ≤ (b.dirs.getD i dS).refs ∧ (b.dirs.getD i dS).refs = (refsM b.packs (b.dirs.getD i dS).path : Nat)) → (0 < i → lt' (b.dirs.getD (i - 1) dS).path (b.dirs.getD i dS).path = true) → ∀ j, j < i + 1 → (1 ≤ (b.dirs.getD j dS).refs ∧ (b.dirs.getD j dS).refs = (refsM b.packs (b.dirs.getD j dS).path : Nat)) ∧ (0 < j → lt' (b.dirs.getD (j - 1) dS).path (b.dirs.getD j dS).path = true) := fun h1 h2 j hj => by
              rcases Nat.lt_or_ge j i with h | h
              · exact hr j h
              · rw [show j = i by omega]; exact ⟨h1, h2⟩
            clear hr hbo hent
            try refine gb ?_
            repeat' (first | exact True.intro | (exfalso; omega) | (exfalso; contradiction) | (exact no1 (by omega)) | (exact no2 (by omega) (by simp_all; done)) | (refine ⟨i + 1, ⟨by omega, yes (by omega) (fun _ => by first | omega | (simp_all; done))⟩, (by omega), fits_of (gb ?_) (gb ?_) (gb ?_) (gb ?_) (gb ?_)⟩ <;> (first | exact True.intro | exact ⟨rfl, rfl⟩ | exact ⟨rfl, rfl, rfl⟩ | rfl | exact rowc (List.map_id _) | trivial); done) | (rw [show ((i : Int) - 1).toNat = i - 1 by omega]) | refine cd (orrefs_ok b (b.dirs.getD i dS).path hb) (gb ?_) | refine br (fun h => ?_) (fun h => ?_) | refine gb ?_)
          · try refine gb ?_
            rw [decide_eq_true (hbo.2 ⟨by omega, fun m hm x hx => hent m hm x hx, fun d hd => ?_, (ris_map (·.path) b.dirs dS).1 fun j h0 hj => (hr j (by omega)).2 h0⟩)]
            obtain ⟨q, hq, rfl⟩ := List.getElem_of_mem hd
            have := (hr q (by omega)).1
            rwa [getD_get hq] at this
  · try refine gb ?_
    rw [decide_eq_false fun h : BasOk b => absurd h.len (by omega)]
end Go.Proofs.YtagjeabdcjcchaaGreatDoor.Ev
namespace Go.Proofs.YtagjeabdcjcchaaGreatDoor.Ev
open Go.RowKit
open Go.Proofs.YtagjeabdcjcchaaGreatDoor.Mem
set_option linter.unusedVariables false
set_option linter.unusedSimpArgs false
set_option maxRecDepth 100000
theorem dd_step (n : Nat) (h : 0 < n) : Lib.decDigits n = (if n / 10 = 0 then [] else Lib.decDigits (n / 10)) ++ [UInt8.ofNat (48 + n % 10)] := by
  by_cases h1 : n < 10
  · rw [dd_small h1, if_pos (by omega), Nat.mod_eq_of_lt h1]; rfl
  · rw [dd_big h1, if_neg (by omega)]
theorem dig_c (k : Nat) : cB (.n .u8 (IntKind.u8.wrap (48 + ((k % 10 : Nat) : Int)))) = UInt8.ofNat (48 + k % 10) := by
  have : IntKind.u8.wrap (48 + ((k % 10 : Nat) : Int)) = ((48 + k % 10 : Nat) : Int) := by
    simp [IntKind.wrap, IntKind.bits, IntKind.signed]; omega
  rw [this]
  show UInt8.ofNat (((48 + k % 10 : Nat) : Int)).toNat = _
  rw [Int.toNat_natCast]
theorem ordig_ok (n : Nat) (h : n < 1000000000000000000) : Spec Tryz.prog LL 33 [.n .i64 (n : Int)] (.s (Lib.decDigits n)) := by
  refine spec_of (C := ⟨Tryz.prog, LL, EE, []⟩) (rl := [.s (Lib.decDigits n)]) (rs := [.tmp 2]) CCx LLs Tryz.func33 rfl (by kernel_rfl) rfl (by kernel_rfl) (Nat.le_of_ble_eq_true rfl) (fun i => rfl) (fun i => by first | rfl | exact (Bool.or_false _).trans (eSd_men _ _)) rfl (by decide) ?_
  refine gb ?_
  refine lp_hd [] [] (fun x : Nat × List UInt8 => [(0, .n .i64 (x.1 : Int)), (3, .s x.2)]) (fun x : Nat × List UInt8 => []) (fun x : Nat × List UInt8 => x.1 ≤ n ∧ x.2.length ≤ n - x.1 + 1 ∧ (x.2 = [] ∧ x.1 = n ∨ x.2 ≠ [] ∧ Lib.decDigits n = (if x.1 = 0 then [] else Lib.decDigits x.1) ++ x.2)) (fun x : Nat × List UInt8 => x.1 + (if x.2 = [] then 1 else 0)) ((n, [])) id (id) ⟨Nat.le_refl _, Nat.zero_le _, .inl ⟨rfl, rfl⟩⟩ (fits_of (gb ?_) (gb ?_) (gb ?_) (gb ?_) (gb ?_)) ?_
  · first | exact True.intro | exact ⟨rfl, rfl⟩ | exact ⟨rfl, rfl, rfl⟩ | rfl | exact rowc (List.map_id _) | trivial
  · first | exact True.intro | exact ⟨rfl, rfl⟩ | exact ⟨rfl, rfl, rfl⟩ | rfl | exact rowc (List.map_id _) | trivial
  · first | exact True.intro | exact ⟨rfl, rfl⟩ | exact ⟨rfl, rfl, rfl⟩ | rfl | exact rowc (List.map_id _) | trivial
  · first | exact True.intro | exact ⟨rfl, rfl⟩ | exact ⟨rfl, rfl, rfl⟩ | rfl | exact rowc (List.map_id _) | trivial
  · first | exact True.intro | exact ⟨rfl, rfl⟩ | exact ⟨rfl, rfl, rfl⟩ | rfl | exact rowc (List.map_id _) | trivial
  rintro ⟨k, s⟩ ⟨g1, g2, g3⟩
  dsimp only at g1 g2 g3 ⊢
  have ht : (k : Int).tmod 10 = ((k % 10 : Nat) : Int) := rfl
  have hd : (k : Int).tdiv 10 = ((k / 10 : Nat) : Int) := rfl
  have hw : IntKind.i64.wrap (48 + ((k % 10 : Nat) : Int)) = 48 + ((k % 10 : Nat) : Int) := wr64 (by omega) (by omega)
  have hnx : (0 < k ∨ s = []) → (k / 10 ≤ n ∧ (UInt8.ofNat (48 + k % 10) :: s).length ≤ n - k / 10 + 1 ∧ (UInt8.ofNat (48 + k % 10) :: s = [] ∧ k / 10 = n ∨ UInt8.ofNat (48 + k % 10) :: s ≠ [] ∧ Lib.decDigits n = (if k / 10 = 0 then [] else Lib.decDigits (k / 10)) ++ UInt8.ofNat (48 + k % 10) :: s)) := fun hc => by
    refine ⟨by omega, ?_, .inr ⟨by simp, ?_⟩⟩
    · rw [List.length_cons]
      rcases g3 with ⟨rfl, _⟩ | ⟨hne, _⟩
      · simp
      · have : 0 < k := hc.resolve_right hne
        omega
    · rcases g3 with ⟨rfl, rfl⟩ | ⟨hne, e⟩
      · rcases Nat.eq_zero_or_pos k with h0 | h0
        · subst h0; rw [dd_small (by omega)]; rfl
        · rw [dd_step k h0]
      · have h0 : 0 < k := hc.resolve_right hne
        rw [e, if_neg (by omega), dd_step k h0, List.append_assoc]
        rfl
  have hms : (0 < k ∨ s = []) → k / 10 + (if UInt8.ofNat (48 + k % 10) :: s = [] then 1 else 0) < k + if s = [] then 1 else 0 := fun hc => by
    rw [if_neg (by simp)]
    split
    · omega
    · rename_i hne; have : 0 < k := hc.resolve_right hne; omega
  try refine gb ?_
  refine br (fun a => ?_) (fun a => ?_)
  · try refine gb ?_
    refine br (fun b => ?_) (fun b => ?_)
    · try refine gb ?_
      rw [ht]
      refine .inr ?_
      refine cvB (t := 5) (by kernel_rfl) (by kernel_rfl) (by kernel_rfl) ?_
      rw [dig_c]
      try refine gb ?_
      try rw [hd]
      refine ⟨(k / 10, UInt8.ofNat (48 + k % 10) :: s), hnx (.inr b), hms (.inr b), fits_of (gb ?_) (gb ?_) (gb ?_) (gb ?_) (gb ?_)⟩
      · first | exact True.intro | exact ⟨rfl, rfl⟩ | exact ⟨rfl, rfl, rfl⟩ | rfl | exact rowc (List.map_id _) | trivial
      · first | exact True.intro | exact ⟨rfl, rfl⟩ | exact ⟨rfl, rfl, rfl⟩ | rfl | exact rowc (List.map_id _) | trivial
      · first | exact True.intro | exact ⟨rfl, rfl⟩ | exact ⟨rfl, rfl, rfl⟩ | rfl | exact rowc (List.map_id _) | trivial
      · first | exact True.intro | exact ⟨rfl, rfl⟩ | exact ⟨rfl, rfl, rfl⟩ | rfl | exact rowc (List.map_id _) | trivial
      · first | exact True.intro | exact ⟨rfl, rfl⟩ | exact ⟨rfl, rfl, rfl⟩ | rfl | exact rowc (List.map_id _) | trivial
    · try refine gb ?_
      have hk : k = 0 := by omega
      subst hk
      rcases g3 with ⟨h1, _⟩ | ⟨_, e⟩
      · exact absurd h1 b
      · rw [e, if_pos rfl]; rfl
  · try refine gb ?_
    rw [ht]
    refine .inr ?_
    refine cvB (t := 5) (by kernel_rfl) (by kernel_rfl) (by kernel_rfl) ?_
    rw [dig_c]
    try refine gb ?_
    try rw [hd]
    refine ⟨(k / 10, UInt8.ofNat (48 + k % 10) :: s), hnx (.inl (by omega)), hms (.inl (by omega)), fits_of (gb ?_) (gb ?_) (gb ?_) (gb ?_) (gb ?_)⟩
    · first | exact True.intro | exact ⟨rfl, rfl⟩ | exact ⟨rfl, rfl, rfl⟩ | rfl | exact rowc (List.map_id _) | trivial
    · first | exact True.intro | exact ⟨rfl, rfl⟩ | exact ⟨rfl, rfl, rfl⟩ | rfl | exact rowc (List.map_id _) | trivial
    · first | exact True.intro | exact ⟨rfl, rfl⟩ | exact ⟨rfl, rfl, rfl⟩ | rfl | exact rowc (List.map_id _) | trivial
    · first | exact True.intro | exact ⟨rfl, rfl⟩ | exact ⟨rfl, rfl, rfl⟩ | rfl | exact rowc (List.map_id _) | trivial
    · first | exact True.intro | exact ⟨rfl, rfl⟩ | exact ⟨rfl, rfl, rfl⟩ | rfl | exact rowc (List.map_id _) | trivial
theorem orshared_ok (d : Shr) (h0 : 0 ≤ d.refs) (h1 : d.refs < 1000000) (hp : d.path.length ≤ 140737488350000) : Spec Tryz.prog LL 34 [eShr d] (.s (dirL d)) := by
  refine spec_of (C := ⟨Tryz.prog, LL, EE, []⟩) (rl := [.s (dirL d)]) (rs := [.tmp 2]) CCx LLs Tryz.func34 rfl (by kernel_rfl) rfl (by kernel_rfl) (Nat.le_of_ble_eq_true rfl) (fun i => rfl) (fun i => by first | rfl | exact (Bool.or_false _).trans (eSd_men _ _)) rfl (by decide) ?_
  refine gb ?_
  obtain ⟨r, hr⟩ : ∃ r : Nat, d.refs = r := ⟨d.refs.toNat, by omega⟩
  have hl := dd_len8 r (by omega)
  have hD : dirL d = wDir ++ 32 :: bitL d.made ++ 32 :: Lib.decDigits r ++ 32 :: d.path ++ [10] := by unfold dirL lineL; rw [join4, hr]; rfl
  rw [hr]
  refine br (fun c => ?_) (fun c => ?_)
  · try refine gb ?_
    refine cd (ordig_ok r (by omega)) ?_
    refine gb ?_
    rw [hD, bitL, if_pos c]
    try refine gb ?_
    rfl
  · try refine gb ?_
    refine cd (ordig_ok r (by omega)) ?_
    refine gb ?_
    rw [hD, bitL, if_neg c]
    try refine gb ?_
    rfl
set_option maxHeartbeats 4000000 in
theorem orprint_ok (b : Bas) (hb : b.Big) : Spec Tryz.prog LL 12 [eBas b] (.tp [.s (printB b).1, .n .i64 (printB b).2]) := by
  refine spec_of (C := ⟨Tryz.prog, LL, EE, []⟩) (rl := [.s (printB b).1, .n .i64 (printB b).2]) (rs := [.tmp 2, .tmp 3]) CCx LLs Tryz.func12 rfl (by kernel_rfl) rfl (by kernel_rfl) (Nat.le_of_ble_eq_true rfl) (fun i => rfl) (fun i => by first | rfl | exact (Bool.or_false _).trans (eSd_men _ _)) rfl (by decide) ?_
  refine gb ?_
  refine cl (orcheck_ok b hb) ?_
  refine gb ?_
  refine br (fun a => ?_) (fun a => ?_)
  · try refine gb ?_
    have hp : ¬ BasOk b := by simpa using a
    rw [show printB b = ([], 1) from if_neg hp]
    exact ⟨rfl, rfl⟩
  · have hp : BasOk b := by simpa using a
    obtain ⟨hdg, hdl⟩ := dirs_good hp
    have hds := dirs_short hp
    have hpl := hp.len
    rw [show printB b = (textB b, 0) from if_pos hp]
    try refine gb ?_
    refine lp_hd [1] [1] (fun i : Nat => [(4, .s (wBase ++ (b.packs.take i).flatMap packL)), (5, .n .i64 (i : Int))]) (fun i : Nat => []) (fun i : Nat => i ≤ b.packs.length) (fun i : Nat => b.packs.length - i) (0) id (id) (Nat.zero_le _) (fits_of (gb ?_) (gb ?_) (gb ?_) (gb ?_) (gb ?_)) ?_
    · first | exact True.intro | exact ⟨rfl, rfl⟩ | exact ⟨rfl, rfl, rfl⟩ | rfl | exact rowc (List.map_id _) | trivial
    · (refine ⟨?_, rfl⟩; simp [wBase])
    · first | exact True.intro | exact ⟨rfl, rfl⟩ | exact ⟨rfl, rfl, rfl⟩ | rfl | exact rowc (List.map_id _) | trivial
    · first | exact True.intro | exact ⟨rfl, rfl⟩ | exact ⟨rfl, rfl, rfl⟩ | rfl | exact rowc (List.map_id _) | trivial
    · first | exact True.intro | exact ⟨rfl, rfl⟩ | exact ⟨rfl, rfl, rfl⟩ | rfl | exact rowc (List.map_id _) | trivial
    rintro i hi
    have hlen := flat_len (f := packL) (l := b.packs.take i) fun m hm => pack_len (hp.chk m (List.mem_of_mem_take hm))
    have hlen2 : (b.packs.take i).length ≤ 32 := by rw [List.length_take]; omega
    try refine gb ?_
    refine br (fun e => ?_) (fun e => ?_)
    · have htk := flat_take packL b.packs dMn i (by omega)
      have hm : b.packs.getD i dMn ∈ b.packs := getD_mem (by omega)
      have hc := hp.chk _ hm
      have hf := (hb.m _ hm).1
      have hpk := pack_len hc
      have htl := textM_len (ManOk.of hc)
      try refine gb ?_
      generalize b.packs.getD i dMn = m at hc hf htk hpk htl ⊢
      refine cl (rprint_ok m hf) ?_
      refine gb ?_
      rw [show printM m = (textM m, 0) from if_neg (by rw [hc]; simp)]
      have hdl2 := dd_len8 (textM m).length (by omega)
      have hwb : wBase.length = 7 := rfl
      try refine gb ?_
      refine cl (ordig_ok (textM m).length (by omega)) ?_
      refine gb ?_
      refine ⟨i + 1, (by omega), (by omega), fits_of (gb ?_) (gb ?_) (gb ?_) (gb ?_) (gb ?_)⟩
      · first | exact True.intro | exact ⟨rfl, rfl⟩ | exact ⟨rfl, rfl, rfl⟩ | rfl | exact rowc (List.map_id _) | trivial
      · (refine ⟨?_, rfl⟩; rw [htk]; unfold packL lineL; rw [join2]; simp [wPack])
      · first | exact True.intro | exact ⟨rfl, rfl⟩ | exact ⟨rfl, rfl, rfl⟩ | rfl | exact rowc (List.map_id _) | trivial
      · first | exact True.intro | exact ⟨rfl, rfl⟩ | exact ⟨rfl, rfl, rfl⟩ | rfl | exact rowc (List.map_id _) | trivial
      · first | exact True.intro | exact ⟨rfl, rfl⟩ | exact ⟨rfl, rfl, rfl⟩ | rfl | exact rowc (List.map_id _) | trivial
    · rw [List.take_of_length_le (by omega)] at hlen ⊢
      rw [List.take_of_length_le (by omega)] at hlen2
      try refine gb ?_
      refine lp_hd [1] [1] (fun i : Nat => [(4, .s (wBase ++ (b.packs.flatMap packL ++ (b.dirs.take i).flatMap dirL))), (8, .n .i64 (i : Int))]) (fun i : Nat => []) (fun i : Nat => i ≤ b.dirs.length) (fun i : Nat => b.dirs.length - i) (0) id (id) (Nat.zero_le _) (fits_of (gb ?_) (gb ?_) (gb ?_) (gb ?_) (gb ?_)) ?_
      · first | exact True.intro | exact ⟨rfl, rfl⟩ | exact ⟨rfl, rfl, rfl⟩ | rfl | exact rowc (List.map_id _) | trivial
      · (refine ⟨?_, rfl⟩; simp)
      · first | exact True.intro | exact ⟨rfl, rfl⟩ | exact ⟨rfl, rfl, rfl⟩ | rfl | exact rowc (List.map_id _) | trivial
      · first | exact True.intro | exact ⟨rfl, rfl⟩ | exact ⟨rfl, rfl, rfl⟩ | rfl | exact rowc (List.map_id _) | trivial
      · first | exact True.intro | exact ⟨rfl, rfl⟩ | exact ⟨rfl, rfl, rfl⟩ | rfl | exact rowc (List.map_id _) | trivial
      rintro i hi
      have hwb : wBase.length = 7 := rfl
      have hle := flat_len (f := dirL) (l := b.dirs.take i) fun d hd => dirL_len (hdg d (List.mem_of_mem_take hd)).2.1 (hdg d (List.mem_of_mem_take hd)).2.2 (hds d (List.mem_of_mem_take hd))
      have hle2 : (b.dirs.take i).length ≤ 2048 := by rw [List.length_take]; omega
      try refine gb ?_
      refine br (fun e => ?_) (fun e => ?_)
      · have htk := flat_take dirL b.dirs dS i (by omega)
        have hm : b.dirs.getD i dS ∈ b.dirs := getD_mem (by omega)
        obtain ⟨_, q1, q2⟩ := hdg _ hm
        have q3 := hds _ hm
        have q4 := dirL_len q1 q2 q3
        try refine gb ?_
        generalize b.dirs.getD i dS = d at q1 q2 q3 q4 htk ⊢
        refine cl (orshared_ok d q1 q2 (by omega)) ?_
        refine gb ?_
        refine ⟨i + 1, (by omega), (by omega), fits_of (gb ?_) (gb ?_) (gb ?_) (gb ?_) (gb ?_)⟩
        · first | exact True.intro | exact ⟨rfl, rfl⟩ | exact ⟨rfl, rfl, rfl⟩ | rfl | exact rowc (List.map_id _) | trivial
        · (refine ⟨?_, rfl⟩; rw [htk])
        · first | exact True.intro | exact ⟨rfl, rfl⟩ | exact ⟨rfl, rfl, rfl⟩ | rfl | exact rowc (List.map_id _) | trivial
        · first | exact True.intro | exact ⟨rfl, rfl⟩ | exact ⟨rfl, rfl, rfl⟩ | rfl | exact rowc (List.map_id _) | trivial
        · first | exact True.intro | exact ⟨rfl, rfl⟩ | exact ⟨rfl, rfl, rfl⟩ | rfl | exact rowc (List.map_id _) | trivial
      · rw [List.take_of_length_le (by omega)] at hle ⊢
        rw [List.take_of_length_le (by omega)] at hle2
        try refine gb ?_
        unfold textB restB wEnd
        simp
end Go.Proofs.YtagjeabdcjcchaaGreatDoor.Ev
