/- Databases: the document's answers: whether one may be. -/
import Derived.Test.YtjbnmeofjiokeaaGreatDoorPC
import Derived.Test.YtjbnmeofjiokeaaGreatDoorVC
import Derived.Test.YtjbnmeofjiokeaaGreatDoorPD
import Derived.Test.YtjbnmeofjiokeaaGreatDoorQI
import Derived.Test.YtjbnmeofjiokeaaGreatDoorKI
import Derived.Test.YtjbnmeofjiokeaaGreatDoorRows
import Derived.Lib.LaidIn
import Derived.Lib.LaidU8T
import Derived.Lib.LaidTab
import Derived.LaidLaws
import Derived.LaidMore
import Derived.Deep.DeepHandedRow
import Derived.ProofKit
import Derived.OpenShut
set_option linter.all false
namespace Go.Proofs.YtjbnmeofjiokeaaGreatDoor.Ev
open Go.RowKit
open Go.Proofs.YtjbnmeofjiokeaaGreatDoor.Mem
set_option linter.unusedVariables false
set_option linter.unusedSimpArgs false
set_option maxRecDepth 100000
theorem orhas_ok (m : Man) (w : List UInt8) (hl : m.ents.length ≤ 100000000000000) : Spec Tryz.prog LL 25 [eMan m, .s w] (.tp [eEnt (hasM m.ents w).1, .b (hasM m.ents w).2]) := by
  refine spec_of (C := ⟨Tryz.prog, LL, EE, []⟩) (rl := [eEnt (hasM m.ents w).1, .b (hasM m.ents w).2]) (rs := [.cell 4 53, .tmp 5]) CCx LLs Tryz.func25 rfl (by kernel_rfl) rfl (by kernel_rfl) (Nat.le_of_ble_eq_true rfl) (fun i => rfl) (fun i => by first | rfl | exact (Bool.or_false _).trans (eSd_men _ _)) rfl (by decide) ?_
  refine gb ?_
  refine lp_hd [1, 2, 4] [2, 4] (fun i : Nat => [(6, .n .i64 (i : Int))]) (fun i : Nat => []) (fun i : Nat => i ≤ m.ents.length ∧ hasM m.ents w = hasM (m.ents.drop i) w) (fun i : Nat => m.ents.length - i) (0) id (id) ⟨Nat.zero_le _, rfl⟩ (fits_of (gb ?_) (gb ?_) (gb ?_) (gb ?_) (gb ?_)) ?_
  · first | exact True.intro | exact ⟨rfl, rfl⟩ | exact ⟨rfl, rfl, rfl⟩ | rfl | exact rowc (List.map_id _) | trivial
  · first | exact True.intro | exact ⟨rfl, rfl⟩ | exact ⟨rfl, rfl, rfl⟩ | rfl | exact rowc (List.map_id _) | trivial
  · first | exact True.intro | exact ⟨rfl, rfl⟩ | exact ⟨rfl, rfl, rfl⟩ | rfl | exact rowc (List.map_id _) | trivial
  · first | exact True.intro | exact ⟨rfl, rfl⟩ | exact ⟨rfl, rfl, rfl⟩ | rfl | exact rowc (List.map_id _) | trivial
  · first | exact True.intro | exact ⟨rfl, rfl⟩ | exact ⟨rfl, rfl, rfl⟩ | rfl | exact rowc (List.map_id _) | trivial
  rintro i ⟨hi, hr⟩
  try refine gb ?_
  refine br (fun e => ?_) (fun e => ?_)
  · have hd := drop_at m.ents i dE (by omega)
    rw [hd, hasM] at hr
    clear hd
    try refine gb ?_
    refine br (fun c => ?_) (fun c => ?_)
    · rw [if_pos c] at hr
      try refine gb ?_
      rw [hr]
      exact ⟨le_refl _, rfl⟩
    · rw [if_neg c] at hr
      try refine gb ?_
      refine ⟨i + 1, ⟨by omega, hr⟩, (by omega), fits_of (gb ?_) (gb ?_) (gb ?_) (gb ?_) (gb ?_)⟩
      · first | exact True.intro | exact ⟨rfl, rfl⟩ | exact ⟨rfl, rfl, rfl⟩ | rfl | exact rowc (List.map_id _) | trivial
      · first | exact True.intro | exact ⟨rfl, rfl⟩ | exact ⟨rfl, rfl, rfl⟩ | rfl | exact rowc (List.map_id _) | trivial
      · first | exact True.intro | exact ⟨rfl, rfl⟩ | exact ⟨rfl, rfl, rfl⟩ | rfl | exact rowc (List.map_id _) | trivial
      · first | exact True.intro | exact ⟨rfl, rfl⟩ | exact ⟨rfl, rfl, rfl⟩ | rfl | exact rowc (List.map_id _) | trivial
      · first | exact True.intro | exact ⟨rfl, rfl⟩ | exact ⟨rfl, rfl, rfl⟩ | rfl | exact rowc (List.map_id _) | trivial
  · try refine gb ?_
    rw [hr, List.drop_eq_nil_of_le (by omega)]
    exact ⟨le_refl _, rfl⟩
theorem orfind_ok (b : Bas) (w : List UInt8) (hb : b.Big) : Spec Tryz.prog LL 8 [eBas b, .s w] (.tp [eMan (findM b.packs w).1, .b (findM b.packs w).2]) := by
  refine spec_of (C := ⟨Tryz.prog, LL, EE, []⟩) (rl := [eMan (findM b.packs w).1, .b (findM b.packs w).2]) (rs := [.cell 4 30, .tmp 5]) CCx LLs Tryz.func8 rfl (by kernel_rfl) rfl (by kernel_rfl) (Nat.le_of_ble_eq_true rfl) (fun i => rfl) (fun i => by first | rfl | exact (Bool.or_false _).trans (eSd_men _ _)) rfl (by decide) ?_
  refine gb ?_
  have hbp := hb.p
  refine lp_hd [1, 2, 4] [2, 4] (fun i : Nat => [(6, .n .i64 (i : Int))]) (fun i : Nat => []) (fun i : Nat => i ≤ b.packs.length ∧ findM b.packs w = findM (b.packs.drop i) w) (fun i : Nat => b.packs.length - i) (0) id (id) ⟨Nat.zero_le _, rfl⟩ (fits_of (gb ?_) (gb ?_) (gb ?_) (gb ?_) (gb ?_)) ?_
  · first | exact True.intro | exact ⟨rfl, rfl⟩ | exact ⟨rfl, rfl, rfl⟩ | rfl | exact rowc (List.map_id _) | trivial
  · first | exact True.intro | exact ⟨rfl, rfl⟩ | exact ⟨rfl, rfl, rfl⟩ | rfl | exact rowc (List.map_id _) | trivial
  · first | exact True.intro | exact ⟨rfl, rfl⟩ | exact ⟨rfl, rfl, rfl⟩ | rfl | exact rowc (List.map_id _) | trivial
  · first | exact True.intro | exact ⟨rfl, rfl⟩ | exact ⟨rfl, rfl, rfl⟩ | rfl | exact rowc (List.map_id _) | trivial
  · first | exact True.intro | exact ⟨rfl, rfl⟩ | exact ⟨rfl, rfl, rfl⟩ | rfl | exact rowc (List.map_id _) | trivial
  rintro i ⟨hi, hr⟩
  try refine gb ?_
  refine br (fun e => ?_) (fun e => ?_)
  · rw [drop_at b.packs i dMn (by omega), findM] at hr
    try refine gb ?_
    refine br (fun c => ?_) (fun c => ?_)
    · rw [if_pos c] at hr
      try refine gb ?_
      rw [hr]
      exact ⟨le_refl _, rfl⟩
    · rw [if_neg c] at hr
      try refine gb ?_
      refine ⟨i + 1, ⟨by omega, hr⟩, (by omega), fits_of (gb ?_) (gb ?_) (gb ?_) (gb ?_) (gb ?_)⟩
      · first | exact True.intro | exact ⟨rfl, rfl⟩ | exact ⟨rfl, rfl, rfl⟩ | rfl | exact rowc (List.map_id _) | trivial
      · first | exact True.intro | exact ⟨rfl, rfl⟩ | exact ⟨rfl, rfl, rfl⟩ | rfl | exact rowc (List.map_id _) | trivial
      · first | exact True.intro | exact ⟨rfl, rfl⟩ | exact ⟨rfl, rfl, rfl⟩ | rfl | exact rowc (List.map_id _) | trivial
      · first | exact True.intro | exact ⟨rfl, rfl⟩ | exact ⟨rfl, rfl, rfl⟩ | rfl | exact rowc (List.map_id _) | trivial
      · first | exact True.intro | exact ⟨rfl, rfl⟩ | exact ⟨rfl, rfl, rfl⟩ | rfl | exact rowc (List.map_id _) | trivial
  · try refine gb ?_
    rw [hr, List.drop_eq_nil_of_le (by omega)]
    exact ⟨dM_le, rfl⟩
theorem orowner_ok (b : Bas) (w : List UInt8) (hb : b.Big) : Spec Tryz.prog LL 12 [eBas b, .s w] (.tp [.s (ownM b.packs w).1, .b (ownM b.packs w).2]) := by
  refine spec_of (C := ⟨Tryz.prog, LL, EE, []⟩) (rl := [.s (ownM b.packs w).1, .b (ownM b.packs w).2]) (rs := [.tmp 4, .tmp 5]) CCx LLs Tryz.func12 rfl (by kernel_rfl) rfl (by kernel_rfl) (Nat.le_of_ble_eq_true rfl) (fun i => rfl) (fun i => by first | rfl | exact (Bool.or_false _).trans (eSd_men _ _)) rfl (by decide) ?_
  refine gb ?_
  have hbp := hb.p
  refine lp_hd [1, 2] [2] (fun i : Nat => [(6, .n .i64 (i : Int))]) (fun i : Nat => []) (fun i : Nat => i ≤ b.packs.length ∧ ownM b.packs w = ownM (b.packs.drop i) w) (fun i : Nat => b.packs.length - i) (0) id (id) ⟨Nat.zero_le _, rfl⟩ (fits_of (gb ?_) (gb ?_) (gb ?_) (gb ?_) (gb ?_)) ?_
  · first | exact True.intro | exact ⟨rfl, rfl⟩ | exact ⟨rfl, rfl, rfl⟩ | rfl | exact rowc (List.map_id _) | trivial
  · first | exact True.intro | exact ⟨rfl, rfl⟩ | exact ⟨rfl, rfl, rfl⟩ | rfl | exact rowc (List.map_id _) | trivial
  · first | exact True.intro | exact ⟨rfl, rfl⟩ | exact ⟨rfl, rfl, rfl⟩ | rfl | exact rowc (List.map_id _) | trivial
  · first | exact True.intro | exact ⟨rfl, rfl⟩ | exact ⟨rfl, rfl, rfl⟩ | rfl | exact rowc (List.map_id _) | trivial
  · first | exact True.intro | exact ⟨rfl, rfl⟩ | exact ⟨rfl, rfl, rfl⟩ | rfl | exact rowc (List.map_id _) | trivial
  rintro i ⟨hi, hr⟩
  try refine gb ?_
  refine br (fun e => ?_) (fun e => ?_)
  · rw [drop_at b.packs i dMn (by omega), ownM] at hr
    have hm := hb.m _ (getD_mem (x := dMn) (show i < b.packs.length by omega))
    try refine gb ?_
    refine cl (orhas_ok (b.packs.getD i dMn) w hm.1.el) ?_
    refine gb ?_
    unfold fileB at hr
    repeat' (first | exact True.intro | (simp_all; done) | (refine ⟨i + 1, ⟨by omega, by rw [hr]; simp_all⟩, (by omega), fits_of (gb ?_) (gb ?_) (gb ?_) (gb ?_) (gb ?_)⟩ <;> (first | exact True.intro | exact ⟨rfl, rfl⟩ | exact ⟨rfl, rfl, rfl⟩ | rfl | exact rowc (List.map_id _) | trivial); done) | refine br (fun h => ?_) (fun h => ?_) | refine gb ?_)
  · try refine gb ?_
    rw [hr, List.drop_eq_nil_of_le (by omega)]
    exact ⟨rfl, rfl⟩
def dirI : List Shr → List UInt8 → Int → Int
  | [], _, _ => -1
  | x :: r, w, k => if x.path = w then k else dirI r w (k + 1)
theorem dirI_ix : ∀ (l : List Shr) (w : List UInt8) (k : Int), 0 ≤ k → (dirI l w k < 0 ↔ dirIx l w = false)
  | [], w, k, h => by simp [dirI, dirIx]
  | x :: r, w, k, h => by
    unfold dirI
    by_cases c : x.path = w
    · rw [if_pos c]; simp [dirIx, c]; omega
    · rw [if_neg c, dirI_ix r w (k + 1) (by omega)]; simp [dirIx, c]
theorem ordir_ok (l : List Shr) (w : List UInt8) (hl : l.length ≤ 100000000000000) : Spec Tryz.prog LL 33 [.sl 3 Shr dS l eShr, .s w] (.n .i64 (dirI l w 0)) := by
  refine spec_of (C := ⟨Tryz.prog, LL, EE, []⟩) (rl := [.n .i64 (dirI l w 0)]) (rs := [.tmp 4]) CCx LLs Tryz.func33 rfl (by kernel_rfl) rfl (by kernel_rfl) (Nat.le_of_ble_eq_true rfl) (fun i => rfl) (fun i => by first | rfl | exact (Bool.or_false _).trans (eSd_men _ _)) rfl (by decide) ?_
  refine gb ?_
  refine lp_hd [0, 1] [] (fun i : Nat => [(5, .n .i64 (i : Int))]) (fun i : Nat => []) (fun i : Nat => i ≤ l.length ∧ dirI l w 0 = dirI (l.drop i) w i) (fun i : Nat => l.length - i) (0) id (id) ⟨Nat.zero_le _, rfl⟩ (fits_of (gb ?_) (gb ?_) (gb ?_) (gb ?_) (gb ?_)) ?_
  · first | exact True.intro | exact ⟨rfl, rfl⟩ | exact ⟨rfl, rfl, rfl⟩ | rfl | exact rowc (List.map_id _) | trivial
  · first | exact True.intro | exact ⟨rfl, rfl⟩ | exact ⟨rfl, rfl, rfl⟩ | rfl | exact rowc (List.map_id _) | trivial
  · first | exact True.intro | exact ⟨rfl, rfl⟩ | exact ⟨rfl, rfl, rfl⟩ | rfl | exact rowc (List.map_id _) | trivial
  · first | exact True.intro | exact ⟨rfl, rfl⟩ | exact ⟨rfl, rfl, rfl⟩ | rfl | exact rowc (List.map_id _) | trivial
  · first | exact True.intro | exact ⟨rfl, rfl⟩ | exact ⟨rfl, rfl, rfl⟩ | rfl | exact rowc (List.map_id _) | trivial
  rintro i ⟨hi, hr⟩
  try refine gb ?_
  refine br (fun e => ?_) (fun e => ?_)
  · rw [drop_at l i dS (by omega), dirI] at hr
    try refine gb ?_
    generalize l.getD i dS = x at hr
    refine br (fun c => ?_) (fun c => ?_)
    · rw [if_pos c] at hr
      try refine gb ?_
      trivial
    · rw [if_neg c] at hr
      try refine gb ?_
      refine ⟨i + 1, ⟨by omega, by rw [hr]; simp⟩, (by omega), fits_of (gb ?_) (gb ?_) (gb ?_) (gb ?_) (gb ?_)⟩
      · first | exact True.intro | exact ⟨rfl, rfl⟩ | exact ⟨rfl, rfl, rfl⟩ | rfl | exact rowc (List.map_id _) | trivial
      · first | exact True.intro | exact ⟨rfl, rfl⟩ | exact ⟨rfl, rfl, rfl⟩ | rfl | exact rowc (List.map_id _) | trivial
      · first | exact True.intro | exact ⟨rfl, rfl⟩ | exact ⟨rfl, rfl, rfl⟩ | rfl | exact rowc (List.map_id _) | trivial
      · first | exact True.intro | exact ⟨rfl, rfl⟩ | exact ⟨rfl, rfl, rfl⟩ | rfl | exact rowc (List.map_id _) | trivial
      · first | exact True.intro | exact ⟨rfl, rfl⟩ | exact ⟨rfl, rfl, rfl⟩ | rfl | exact rowc (List.map_id _) | trivial
  · try refine gb ?_
    rw [hr, List.drop_eq_nil_of_le (by omega)]
    trivial
theorem orrefs_ok (b : Bas) (w : List UInt8) (hb : b.Big) : Spec Tryz.prog LL 34 [eBas b, .s w] (.n .i64 (refsM b.packs w : Nat)) := by
  refine spec_of (C := ⟨Tryz.prog, LL, EE, []⟩) (rl := [.n .i64 (refsM b.packs w : Nat)]) (rs := [.tmp 4]) CCx LLs Tryz.func34 rfl (by kernel_rfl) rfl (by kernel_rfl) (Nat.le_of_ble_eq_true rfl) (fun i => rfl) (fun i => by first | rfl | exact (Bool.or_false _).trans (eSd_men _ _)) rfl (by decide) ?_
  refine gb ?_
  have hbp := hb.p
  refine lp_hd [1, 2] [2] (fun x : Nat × Nat => [(5, .n .i64 (x.2 : Int)), (6, .n .i64 (x.1 : Int))]) (fun x : Nat × Nat => []) (fun x : Nat × Nat => x.1 ≤ b.packs.length ∧ x.2 ≤ x.1 ∧ refsM b.packs w = x.2 + refsM (b.packs.drop x.1) w) (fun x : Nat × Nat => b.packs.length - x.1) ((0, 0)) id (id) ⟨Nat.zero_le _, Nat.le_refl _, by simp⟩ (fits_of (gb ?_) (gb ?_) (gb ?_) (gb ?_) (gb ?_)) ?_
  · first | exact True.intro | exact ⟨rfl, rfl⟩ | exact ⟨rfl, rfl, rfl⟩ | rfl | exact rowc (List.map_id _) | trivial
  · first | exact True.intro | exact ⟨rfl, rfl⟩ | exact ⟨rfl, rfl, rfl⟩ | rfl | exact rowc (List.map_id _) | trivial
  · first | exact True.intro | exact ⟨rfl, rfl⟩ | exact ⟨rfl, rfl, rfl⟩ | rfl | exact rowc (List.map_id _) | trivial
  · first | exact True.intro | exact ⟨rfl, rfl⟩ | exact ⟨rfl, rfl, rfl⟩ | rfl | exact rowc (List.map_id _) | trivial
  · first | exact True.intro | exact ⟨rfl, rfl⟩ | exact ⟨rfl, rfl, rfl⟩ | rfl | exact rowc (List.map_id _) | trivial
  rintro ⟨i, n⟩ ⟨hi, hn, hr⟩
  dsimp only at hi hn hr ⊢
  try refine gb ?_
  refine br (fun e => ?_) (fun e => ?_)
  · rw [drop_at b.packs i dMn (by omega)] at hr
    have hm := hb.m _ (getD_mem (x := dMn) (show i < b.packs.length by omega))
    have hcons : ∀ (x : Man) (r : List Man), refsM (x :: r) w = (if dirB2 x.ents w = true then 1 else 0) + refsM r w := fun x r => by
      unfold refsM
      rw [List.filter_cons]
      split <;> simp <;> omega
    rw [hcons] at hr
    try refine gb ?_
    generalize b.packs.getD i dMn = x at hr hm
    refine cl (orhas_ok x w hm.1.el) ?_
    refine gb ?_
    unfold dirB2 at hr
    repeat' (first | exact True.intro | (refine ⟨(i + 1, n + 1), ⟨by dsimp only; omega, by dsimp only; omega, by dsimp only; rw [hr, if_pos (by simp_all)]; omega⟩, (by dsimp only; omega), fits_of (gb ?_) (gb ?_) (gb ?_) (gb ?_) (gb ?_)⟩ <;> (first | exact True.intro | exact ⟨rfl, rfl⟩ | exact ⟨rfl, rfl, rfl⟩ | rfl | exact rowc (List.map_id _) | trivial); done) | (refine ⟨(i + 1, n), ⟨by dsimp only; omega, by dsimp only; omega, by dsimp only; rw [hr, if_neg (by simp_all)]; omega⟩, (by dsimp only; omega), fits_of (gb ?_) (gb ?_) (gb ?_) (gb ?_) (gb ?_)⟩ <;> (first | exact True.intro | exact ⟨rfl, rfl⟩ | exact ⟨rfl, rfl, rfl⟩ | rfl | exact rowc (List.map_id _) | trivial); done) | refine br (fun h => ?_) (fun h => ?_) | refine gb ?_)
  · try refine gb ?_
    rw [hr, List.drop_eq_nil_of_le (by omega)]
    simp [refsM]
def entR (b : Bas) (n : List UInt8) (x : Ent) : Prop := (x.kind = 2 → (ownM b.packs x.path).2 = false ∧ dirIx b.dirs x.path = true) ∧ (¬ x.kind = 2 → (ownM b.packs x.path).1 = n)
open Classical in
set_option maxHeartbeats 4000000 in
theorem orcheck_ok (b : Bas) (hb : b.Big) : Spec Tryz.prog LL 16 [eBas b] (.b (decide (BasOk b))) := by
  refine spec_of (C := ⟨Tryz.prog, LL, EE, []⟩) (rl := [.b (decide (BasOk b))]) (rs := [.tmp 2]) CCx LLs Tryz.func16 rfl (by kernel_rfl) rfl (by kernel_rfl) (Nat.le_of_ble_eq_true rfl) (fun i => rfl) (fun i => by first | rfl | exact (Bool.or_false _).trans (eSd_men _ _)) rfl (by decide) ?_
  refine gb ?_
  have hbp := hb.p
  have hbd := hb.d
  refine br (fun a => ?_) (fun a => ?_)
  · try refine gb ?_
    refine br (fun a2 => ?_) (fun a2 => ?_)
    · try refine gb ?_
      rw [decide_eq_false fun h : BasOk b => absurd ((ref_ok (bas_pk h)).1 h).dl (by omega)]
    · try refine gb ?_
      refine lp_hd [1] [1] (fun i : Nat => [(3, .n .i64 (i : Int))]) (fun i : Nat => []) (fun i : Nat => i ≤ b.packs.length ∧ ∀ j, j < i → checkM (b.packs.getD j dMn) = 0 ∧ (0 < j → lt' (b.packs.getD (j - 1) dMn).name (b.packs.getD j dMn).name = true)) (fun i : Nat => b.packs.length - i) (0) id (id) ⟨Nat.zero_le _, fun j h => absurd h (Nat.not_lt_zero _)⟩ (fits_of (gb ?_) (gb ?_) (gb ?_) (gb ?_) (gb ?_)) ?_
      · first | exact True.intro | exact ⟨rfl, rfl⟩ | exact ⟨rfl, rfl, rfl⟩ | rfl | exact rowc (List.map_id _) | trivial
      · first | exact True.intro | exact ⟨rfl, rfl⟩ | exact ⟨rfl, rfl, rfl⟩ | rfl | exact rowc (List.map_id _) | trivial
      · first | exact True.intro | exact ⟨rfl, rfl⟩ | exact ⟨rfl, rfl, rfl⟩ | rfl | exact rowc (List.map_id _) | trivial
      · first | exact True.intro | exact ⟨rfl, rfl⟩ | exact ⟨rfl, rfl, rfl⟩ | rfl | exact rowc (List.map_id _) | trivial
      · first | exact True.intro | exact ⟨rfl, rfl⟩ | exact ⟨rfl, rfl, rfl⟩ | rfl | exact rowc (List.map_id _) | trivial
      rintro i ⟨hi, hr⟩
      try refine gb ?_
      refine br (fun e => ?_) (fun e => ?_)
      · have hi2 : i < b.packs.length := by omega
        have hm : b.packs.getD i dMn ∈ b.packs := getD_mem hi2
        have no1 : ¬ checkM (b.packs.getD i dMn) = 0 → false = decide (BasOk b) := fun h => (decide_eq_false fun hp : BasOk b => h (hp.chk _ hm)).symm
        have no2 : 0 < i → lt' (b.packs.getD (i - 1) dMn).name (b.packs.getD i dMn).name = false → false = decide (BasOk b) := fun h0 h => (decide_eq_false fun hp : BasOk b => by
          have := (ris_map (·.name) b.packs dMn).2 hp.names i h0 hi2
          rw [h] at this; cases this).symm
        have yes : checkM (b.packs.getD i dMn) = 0 → (0 < i → lt' (b.packs.getD (i - 1) dMn).name (b.packs.getD i dMn).name = true) → ∀ j, j < i + 1 → checkM (b.packs.getD j dMn) = 0 ∧ (0 < j → lt' (b.packs.getD (j - 1) dMn).name (b.packs.getD j dMn).name = true) := fun h1 h2 j hj => by
          rcases Nat.lt_or_ge j i with h | h
          · exact hr j h
          · rw [show j = i by omega]; exact ⟨h1, h2⟩
        have hf := (hb.m _ hm).1
        clear hr
        try refine gb ?_
        refine cd (rcheck_ok (b.packs.getD i dMn) hf) ?_
        refine gb ?_
        repeat' (first | exact True.intro | (exact no1 (by assumption)) | (exact no2 (by omega) (by simp_all)) | (refine ⟨i + 1, ⟨by omega, yes (by first | assumption | omega | simp_all) (fun _ => by first | omega | simp_all)⟩, (by omega), fits_of (gb ?_) (gb ?_) (gb ?_) (gb ?_) (gb ?_)⟩ <;> (first | exact True.intro | exact ⟨rfl, rfl⟩ | exact ⟨rfl, rfl, rfl⟩ | rfl | exact rowc (List.map_id _) | trivial); done) | (rw [show ((i : Int) - 1).toNat = i - 1 by omega]) | refine br (fun h => ?_) (fun h => ?_) | refine gb ?_)
      · have hpk : PkOk b.packs := by
          refine ⟨by omega, fun m hm => ?_, (ris_map (·.name) b.packs dMn).1 fun j h0 hj => (hr j (by omega)).2 h0⟩
          obtain ⟨j, hj, rfl⟩ := List.getElem_of_mem hm
          have := (hr j (by omega)).1
          rwa [getD_get hj] at this
        have hbo : BasOk b ↔ RfOk b := ref_ok hpk
        clear hr
        try refine gb ?_
        refine lp_hd [1] [1] (fun i : Nat => [(4, .n .i64 (i : Int))]) (fun i : Nat => []) (fun i : Nat => i ≤ b.packs.length ∧ ∀ j, j < i → ∀ x ∈ (b.packs.getD j dMn).ents, entR b (b.packs.getD j dMn).name x) (fun i : Nat => b.packs.length - i) (0) id (id) ⟨Nat.zero_le _, fun j h => absurd h (Nat.not_lt_zero _)⟩ (fits_of (gb ?_) (gb ?_) (gb ?_) (gb ?_) (gb ?_)) ?_
        · first | exact True.intro | exact ⟨rfl, rfl⟩ | exact ⟨rfl, rfl, rfl⟩ | rfl | exact rowc (List.map_id _) | trivial
        · first | exact True.intro | exact ⟨rfl, rfl⟩ | exact ⟨rfl, rfl, rfl⟩ | rfl | exact rowc (List.map_id _) | trivial
        · first | exact True.intro | exact ⟨rfl, rfl⟩ | exact ⟨rfl, rfl, rfl⟩ | rfl | exact rowc (List.map_id _) | trivial
        · first | exact True.intro | exact ⟨rfl, rfl⟩ | exact ⟨rfl, rfl, rfl⟩ | rfl | exact rowc (List.map_id _) | trivial
        · first | exact True.intro | exact ⟨rfl, rfl⟩ | exact ⟨rfl, rfl, rfl⟩ | rfl | exact rowc (List.map_id _) | trivial
        rintro i ⟨hi, hr⟩
        try refine gb ?_
        refine br (fun e => ?_) (fun e => ?_)
        · have hi2 : i < b.packs.length := by omega
          have hm : b.packs.getD i dMn ∈ b.packs := getD_mem hi2
          have hel := (hb.m _ hm).1.el
          have no : ∀ x ∈ (b.packs.getD i dMn).ents, ¬ entR b (b.packs.getD i dMn).name x → false = decide (BasOk b) := fun x hx h => (decide_eq_false fun hk : BasOk b => h ((hbo.1 hk).ent _ hm x hx)).symm
          try refine gb ?_
          refine lp_hd [1, 4] [1] (fun k : Nat => [(5, .n .i64 (k : Int))]) (fun k : Nat => []) (fun k : Nat => k ≤ (b.packs.getD i dMn).ents.length ∧ ∀ j, j < k → entR b (b.packs.getD i dMn).name ((b.packs.getD i dMn).ents.getD j dE)) (fun k : Nat => (b.packs.getD i dMn).ents.length - k) (0) id (id) ⟨Nat.zero_le _, fun j h => absurd h (Nat.not_lt_zero _)⟩ (fits_of (gb ?_) (gb ?_) (gb ?_) (gb ?_) (gb ?_)) ?_
          · first | exact True.intro | exact ⟨rfl, rfl⟩ | exact ⟨rfl, rfl, rfl⟩ | rfl | exact rowc (List.map_id _) | trivial
          · first | exact True.intro | exact ⟨rfl, rfl⟩ | exact ⟨rfl, rfl, rfl⟩ | rfl | exact rowc (List.map_id _) | trivial
          · first | exact True.intro | exact ⟨rfl, rfl⟩ | exact ⟨rfl, rfl, rfl⟩ | rfl | exact rowc (List.map_id _) | trivial
          · first | exact True.intro | exact ⟨rfl, rfl⟩ | exact ⟨rfl, rfl, rfl⟩ | rfl | exact rowc (List.map_id _) | trivial
          · first | exact True.intro | exact ⟨rfl, rfl⟩ | exact ⟨rfl, rfl, rfl⟩ | rfl | exact rowc (List.map_id _) | trivial
          rintro k ⟨hk, hr2⟩
          try refine gb ?_
          refine br (fun e2 => ?_) (fun e2 => ?_)
          · have hx : (b.packs.getD i dMn).ents.getD k dE ∈ (b.packs.getD i dMn).ents := getD_mem (by omega)
            have no := no _ hx
            have yes : entR b (b.packs.getD i dMn).name ((b.packs.getD i dMn).ents.getD k dE) → ∀ j, j < k + 1 → entR b (b.packs.getD i dMn).name ((b.packs.getD i dMn).ents.getD j dE) := fun h j hj => by
              rcases Nat.lt_or_ge j k with h' | h'
              · exact hr2 j h'
              · rw [show j = k by omega]; exact h
            have hdi := dirI_ix b.dirs ((b.packs.getD i dMn).ents.getD k dE).path 0 (Int.le_refl 0)
            unfold entR at no yes
            clear hr hr2 hbo hx
            try refine gb ?_
            refine cl (orowner_ok b ((b.packs.getD i dMn).ents.getD k dE).path hb) ?_
            refine gb ?_
            repeat' (first | exact True.intro | (exfalso; omega) | (exfalso; contradiction) | (exact no (by simp_all; done)) | (refine ⟨k + 1, ⟨by omega, yes (by simp_all; done)⟩, (by omega), fits_of (gb ?_) (gb ?_) (gb ?_) (gb ?_) (gb ?_)⟩ <;> (first | exact True.intro | exact ⟨rfl, rfl⟩ | exact ⟨rfl, rfl, rfl⟩ | rfl | exact rowc (List.map_id _) | trivial); done) | refine cl (ordir_ok b.dirs ((b.packs.getD i dMn).ents.getD k dE).path (by omega)) (gb ?_) | refine br (fun h => ?_) (fun h => ?_) | refine gb ?_)
          · try refine gb ?_
            have hnx : ∀ j, j < i + 1 → ∀ x ∈ (b.packs.getD j dMn).ents, entR b (b.packs.getD j dMn).name x := fun j hj => by
              rcases Nat.lt_or_ge j i with h | h
              · exact hr j h
              · rw [show j = i by omega]
                intro x hx
                obtain ⟨q, hq, rfl⟩ := List.getElem_of_mem hx
                have := hr2 q (by omega)
                rwa [getD_get hq] at this
            refine ⟨i + 1, ⟨by omega, hnx⟩, (by omega), fits_of (gb ?_) (gb ?_) (gb ?_) (gb ?_) (gb ?_)⟩
            · first | exact True.intro | exact ⟨rfl, rfl⟩ | exact ⟨rfl, rfl, rfl⟩ | rfl | exact rowc (List.map_id _) | trivial
            · first | exact True.intro | exact ⟨rfl, rfl⟩ | exact ⟨rfl, rfl, rfl⟩ | rfl | exact rowc (List.map_id _) | trivial
            · first | exact True.intro | exact ⟨rfl, rfl⟩ | exact ⟨rfl, rfl, rfl⟩ | rfl | exact rowc (List.map_id _) | trivial
            · first | exact True.intro | exact ⟨rfl, rfl⟩ | exact ⟨rfl, rfl, rfl⟩ | rfl | exact rowc (List.map_id _) | trivial
            · first | exact True.intro | exact ⟨rfl, rfl⟩ | exact ⟨rfl, rfl, rfl⟩ | rfl | exact rowc (List.map_id _) | trivial
        · have hent : ∀ m ∈ b.packs, ∀ x ∈ m.ents, entR b m.name x := fun m hm x hx => by
            obtain ⟨q, hq, rfl⟩ := List.getElem_of_mem hm
            have := hr q (by omega)
            rw [getD_get hq] at this
            exact this x hx
          clear hr
          try refine gb ?_
          refine lp_hd [1] [1] (fun i : Nat => [(9, .n .i64 (i : Int))]) (fun i : Nat => []) (fun i : Nat => i ≤ b.dirs.length ∧ ∀ j, j < i → (1 ≤ (b.dirs.getD j dS).refs ∧ (b.dirs.getD j dS).refs = (refsM b.packs (b.dirs.getD j dS).path : Nat)) ∧ (0 < j → lt' (b.dirs.getD (j - 1) dS).path (b.dirs.getD j dS).path = true)) (fun i : Nat => b.dirs.length - i) (0) id (id) ⟨Nat.zero_le _, fun j h => absurd h (Nat.not_lt_zero _)⟩ (fits_of (gb ?_) (gb ?_) (gb ?_) (gb ?_) (gb ?_)) ?_
          · first | exact True.intro | exact ⟨rfl, rfl⟩ | exact ⟨rfl, rfl, rfl⟩ | rfl | exact rowc (List.map_id _) | trivial
          · first | exact True.intro | exact ⟨rfl, rfl⟩ | exact ⟨rfl, rfl, rfl⟩ | rfl | exact rowc (List.map_id _) | trivial
          · first | exact True.intro | exact ⟨rfl, rfl⟩ | exact ⟨rfl, rfl, rfl⟩ | rfl | exact rowc (List.map_id _) | trivial
          · first | exact True.intro | exact ⟨rfl, rfl⟩ | exact ⟨rfl, rfl, rfl⟩ | rfl | exact rowc (List.map_id _) | trivial
          · first | exact True.intro | exact ⟨rfl, rfl⟩ | exact ⟨rfl, rfl, rfl⟩ | rfl | exact rowc (List.map_id _) | trivial
          rintro i ⟨hi, hr⟩
          try refine gb ?_
          refine br (fun e => ?_) (fun e => ?_)
          · have hi2 : i < b.dirs.length := by omega
            have hm : b.dirs.getD i dS ∈ b.dirs := getD_mem hi2
            have no1 : ¬ (1 ≤ (b.dirs.getD i dS).refs ∧ (b.dirs.getD i dS).refs = (refsM b.packs (b.dirs.getD i dS).path : Nat)) → false = decide (BasOk b) := fun h => (decide_eq_false fun hp : BasOk b => h ((hbo.1 hp).dir _ hm)).symm
            have no2 : 0 < i → lt' (b.dirs.getD (i - 1) dS).path (b.dirs.getD i dS).path = false → false = decide (BasOk b) := fun h0 h => (decide_eq_false fun hp : BasOk b => by
              have := (ris_map (·.path) b.dirs dS).2 hp.paths i h0 hi2
              rw [h] at this; cases this).symm
            have yes : (1 ≤ (b.dirs.getD i dS).refs ∧ (b.dirs.getD i dS).refs = (refsM b.packs (b.dirs.getD i dS).path : Nat)) → (0 < i → lt' (b.dirs.getD (i - 1) dS).path (b.dirs.getD i dS).path = true) → ∀ j, j < i + 1 → (1 ≤ (b.dirs.getD j dS).refs ∧ (b.dirs.getD j dS).refs = (refsM b.packs (b.dirs.getD j dS).path : Nat)) ∧ (0 < j → lt' (b.dirs.getD (j - 1) dS).path (b.dirs.getD j dS).path = true) := fun h1 h2 j hj => by
              rcases Nat.lt_or_ge j i with h | h
              · exact hr j h
              · rw [show j = i by omega]; exact ⟨h1, h2⟩
            clear hr hbo hent
            try refine gb ?_
            repeat' (first | exact True.intro | (exfalso; omega) | (exfalso; contradiction) | (exact no1 (by omega)) | (exact no2 (by omega) (by simp_all; done)) | (refine ⟨i + 1, ⟨by omega, yes (by omega) (fun _ => by first | omega | (simp_all; done))⟩, (by omega), fits_of (gb ?_) (gb ?_) (gb ?_) (gb ?_) (gb ?_)⟩ <;> (first | exact True.intro | exact ⟨rfl, rfl⟩ | exact ⟨rfl, rfl, rfl⟩ | rfl | exact rowc (List.map_id _) | trivial); done) | (rw [show ((i : Int) - 1).toNat = i - 1 by omega]) | refine cd (orrefs_ok b (b.dirs.getD i dS).path hb) (gb ?_) | refine br (fun h => ?_) (fun h => ?_) | refine gb ?_)
          · try refine gb ?_
            rw [decide_eq_true (hbo.2 ⟨by omega, fun m hm x hx => hent m hm x hx, fun d hd => ?_, (ris_map (·.path) b.dirs dS).1 fun j h0 hj => (hr j (by omega)).2 h0⟩)]
            obtain ⟨q, hq, rfl⟩ := List.getElem_of_mem hd
            have := (hr q (by omega)).1
            rwa [getD_get hq] at this
  · try refine gb ?_
    rw [decide_eq_false fun h : BasOk b => absurd h.len (by omega)]
end Go.Proofs.YtjbnmeofjiokeaaGreatDoor.Ev
namespace Go.Proofs.YtjbnmeofjiokeaaGreatDoor.Ev
open Go.RowKit
open Go.Proofs.YtjbnmeofjiokeaaGreatDoor.Mem
set_option linter.unusedVariables false
set_option linter.unusedSimpArgs false
set_option maxRecDepth 100000
theorem gl {p q : Prop} (hq : q) (h : p ↔ q := by simp (config := { maxSteps := 10000000 }) (disch := omega) only [eCd, fxP, rPd, eokP, cPd, eTd, eBrd, ePd, edr, eod, false_and, and_false, epw, eokO, cSo, rDo, eSh, eBsd, evw, fxM, cSd, wrc, eRd, eEd, eMd, eBd, eEE, rDs, eok, true_implies, eo5, ev5, Nat.mul_one, Nat.zero_mul, Nat.one_mul, Nat.add_zero, lenl, bne_self_eq_false, Int.reduceLT, Int.reduceLE, Int.reduceEq, Int.reduceNe, Int.reduceAdd, Int.reduceSub, Int.reduceMul, Int.reduceNeg, ebr, wr64, sdl, ler, true_or, or_true, rng, List.length_map, List.length_range, List.length_append, List.length_replicate, List.length_set, List.length_take, List.length_drop, List.not_mem_nil, false_implies, implies_true, ↓ec, ↓eg, ↓eo, ↓eox, ↓es, ↓et1, em, emR, efz, enl, ebx, ebt, et, ev, List.drop_nil, Option.some.injEq, Option.isSome_none, Int.reduceToNat, List.replicate_zero, Bool.or_self, ez, ef, ebd, et2, Int.toNat_natCast, Option.map_none, Option.map_some, List.all_cons, List.all_nil, Bool.and_self, List.cons_append, List.nil_append, List.append_nil, List.append_assoc, ep, ew, Option.isSome_some, id_eq, Nat.reduceLT, Nat.reduceSub, Bool.false_or, Bool.true_or, Bool.or_true, Bool.true_and, Bool.and_true, reduceCtorEq, Nat.reduceBEq, Bool.true_eq_false, Bool.false_eq_true, List.map_cons, List.map_nil, List.take_succ_cons, List.take_zero, List.drop_succ_cons, List.drop_zero, List.length_cons, List.length_nil, Nat.zero_add, Nat.reduceAdd, Nat.reduceLeDiff, Bool.not_true, Bool.not_false, List.getElem?_cons_succ, List.getElem?_cons_zero, Option.bind_some, ne_eq, not_false_eq_true, ↓eh1, eh, en, List.getD_cons_zero, List.getD_cons_succ, Nat.reduceEqDiff, ↓reduceIte, cond_true, cond_false, Bool.or_false, decide_true, decide_false, true_and, and_true, decide_eq_true_eq, decide_eq_false_iff_not, Bool.not_eq_true', Bool.not_eq_false', not_true_eq_false, Decidable.not_not]; exact Iff.rfl) : p := h.2 hq
theorem drop_cons {α : Type} {l : List α} {n : Nat} {x : α} {r : List α} (d : α) (h : l.drop n = x :: r) : n < l.length ∧ l.getD n d = x ∧ l.drop (n + 1) = r := by
  have h1 : n < l.length := by
    have := congrArg List.length h
    rw [List.length_drop, List.length_cons] at this
    omega
  rw [drop_at l n d h1] at h
  obtain ⟨h2, h3⟩ := List.cons.inj h
  exact ⟨h1, h2, h3⟩
theorem makesL_len (l : List Stt) (ms : List Mbr) : ∀ (E : List Ent) (i : Nat), (makesL l ms E i).length ≤ E.length
  | [], i => Nat.le_refl _
  | x :: r, i => by
    have := makesL_len l ms r (i + 1)
    unfold makesL
    rw [List.length_append, List.length_cons]
    split <;> simp <;> omega
/-- What a case may be. -/
structure Cse.Big (c : Cse) : Prop where
  b : c.base.Big
  t : c.tree.length ≤ 100000000000000
  d : ∀ s ∈ c.tree, s.data.length ≤ 140737488355328
  m : c.m.Fit ∧ c.m.Big
  k : c.members.length ≤ 100000000000000
theorem great_no {b : Bas} {l : List Stt} {m : Man} {k : List Mbr} (h : great2 b l m k = false) : m.ents.length ≤ 500 := by
  have := of_decide_eq_false h
  omega
theorem install_steps {b : Bas} {l : List Stt} {m : Man} {ms : List Mbr} (h : (installM b l m ms).2.2 = 0) : (installM b l m ms).1 = makesL l ms m.ents 0 ∧ ∀ x ∈ m.ents, (atM l x.path).2 = true → x.kind = 2 := by
  rcases install_cases b l m ms with ⟨e, h1, h2⟩ | ⟨_, _, _, hc, h2⟩
  · rw [h2] at h; exact absurd h h1
  · rw [h2]
    have e0 := pcomes_zero hc
    rw [e0] at hc ⊢
    exact comes_new _ _ _ _ hc
theorem install_none {b : Bas} {l : List Stt} {m : Man} {ms : List Mbr} (h : ¬ (installM b l m ms).2.2 = 0) : (installM b l m ms).1 = [] := by
  rcases install_cases b l m ms with ⟨e, h1, h2⟩ | ⟨_, _, _, hc, h2⟩
  · rw [h2]
  · rw [h2] at h; exact absurd rfl h
set_option maxHeartbeats 8000000 in
theorem makes_ok (c : Cse) (hc : c.Big) : Spec Tryz.prog LL 5 [eCse c] (.b true) := by
  refine spec_of (C := ⟨Tryz.prog, LL, EE, []⟩) (rl := [.b true]) (rs := [.tmp 2]) CCx LLs Tryz.func5 rfl (by kernel_rfl) rfl (by kernel_rfl) (Nat.le_of_ble_eq_true rfl) (fun i => rfl) (fun i => by first | rfl | exact (Bool.or_false _).trans (eSd_men _ _)) rfl (by decide) ?_
  refine gl ?_
  have hb := hc.b
  have hl := hc.t
  have hm := hc.m
  have hel := hm.1.el
  have hk := hc.k
  refine cl (great_ok c.base c.tree c.m c.members hb hl (by omega) hk) ?_
  refine gl ?_
  have hg := @great_no c.base c.tree c.m c.members
  generalize great2 c.base c.tree c.m c.members = g at hg ⊢
  cases g with
  | true =>
    try refine gl ?_
    refine cl (awake_ok) ?_
    refine gl ?_
    trivial
  | false =>
    have he := hg rfl
    try refine gl ?_
    refine cl (rcheck_ok c.m hm.1) ?_
    refine gl ?_
    refine br (fun hck => ?_) (fun hck => ?_)
    · try refine gl ?_
      refine cl (awake_ok) ?_
      refine gl ?_
      trivial
    · have hck := Decidable.not_not.1 hck
      try refine gl ?_
      refine cl (install_ok c.base c.tree c.m c.members hb hl hc.d hm (by omega) hk) ?_
      refine gl ?_
      have h1 := @install_steps c.base c.tree c.m c.members
      have h2 := @install_none c.base c.tree c.m c.members
      generalize installM c.base c.tree c.m c.members = o at h1 h2 ⊢
      obtain ⟨os, ob, oe⟩ := o
      dsimp only at h1 h2 ⊢
      refine br (fun er => ?_) (fun er => ?_)
      · have := h2 er
        subst this
        try refine gl ?_
        refine cl (awake_ok) ?_
        refine gl ?_
        trivial
      · obtain ⟨hs, hkd⟩ := h1 (Decidable.not_not.1 er)
        have hol : os.length ≤ 500 := by rw [hs]; exact Nat.le_trans (makesL_len _ _ _ _) he
        try refine gl ?_
        refine lp_hd [1, 3] [1] (fun z : Nat × Nat => [(6, .n .i64 (z.2 : Int)), (7, .n .i64 (z.1 : Int))]) (fun z : Nat × Nat => []) (fun z : Nat × Nat => z.1 ≤ c.m.ents.length ∧ z.2 ≤ os.length ∧ os.drop z.2 = makesL c.tree c.members (c.m.ents.drop z.1) z.1) (fun z : Nat × Nat => c.m.ents.length - z.1) ((0, 0)) id (id) ⟨Nat.zero_le _, Nat.zero_le _, hs⟩ (fits_of (gl ?_) (gl ?_) (gl ?_) (gl ?_) (gl ?_)) ?_
        · first | exact True.intro | exact ⟨rfl, rfl⟩ | exact ⟨rfl, rfl, rfl⟩ | rfl | exact rowc (List.map_id _) | trivial
        · first | exact True.intro | exact ⟨rfl, rfl⟩ | exact ⟨rfl, rfl, rfl⟩ | rfl | exact rowc (List.map_id _) | trivial
        · first | exact True.intro | exact ⟨rfl, rfl⟩ | exact ⟨rfl, rfl, rfl⟩ | rfl | exact rowc (List.map_id _) | trivial
        · first | exact True.intro | exact ⟨rfl, rfl⟩ | exact ⟨rfl, rfl, rfl⟩ | rfl | exact rowc (List.map_id _) | trivial
        · first | exact True.intro | exact ⟨rfl, rfl⟩ | exact ⟨rfl, rfl, rfl⟩ | rfl | exact rowc (List.map_id _) | trivial
        rintro ⟨i, n⟩ ⟨hi, hn, hr⟩
        dsimp only at hi hn hr ⊢
        try refine gl ?_
        refine br (fun e => ?_) (fun e => ?_)
        · have hx := hkd _ (getD_mem (x := dE) (show i < c.m.ents.length by omega))
          rw [drop_at c.m.ents i dE (by omega), makesL] at hr
          try refine gl ?_
          generalize c.m.ents.getD i dE = x at hx hr
          refine cl (rat_ok c.tree x.path hl) ?_
          refine gl ?_
          generalize atM c.tree x.path = t at hx hr ⊢
          obtain ⟨t1, t2⟩ := t
          dsimp only at hx hr ⊢
          cases t2 with
          | true =>
            rw [if_pos rfl, List.nil_append] at hr
            try refine gl ?_
            refine br (fun k2 => ?_) (fun k2 => ?_)
            · exact absurd (hx rfl) k2
            · try refine gl ?_
              refine ⟨(i + 1, n), ⟨by dsimp only; omega, by dsimp only; omega, hr⟩, (by dsimp only; omega), fits_of (gl ?_) (gl ?_) (gl ?_) (gl ?_) (gl ?_)⟩
              · first | exact True.intro | exact ⟨rfl, rfl⟩ | exact ⟨rfl, rfl, rfl⟩ | rfl | exact rowc (List.map_id _) | trivial
              · first | exact True.intro | exact ⟨rfl, rfl⟩ | exact ⟨rfl, rfl, rfl⟩ | rfl | exact rowc (List.map_id _) | trivial
              · first | exact True.intro | exact ⟨rfl, rfl⟩ | exact ⟨rfl, rfl, rfl⟩ | rfl | exact rowc (List.map_id _) | trivial
              · first | exact True.intro | exact ⟨rfl, rfl⟩ | exact ⟨rfl, rfl, rfl⟩ | rfl | exact rowc (List.map_id _) | trivial
              · first | exact True.intro | exact ⟨rfl, rfl⟩ | exact ⟨rfl, rfl, rfl⟩ | rfl | exact rowc (List.map_id _) | trivial
          | false =>
            rw [if_neg (by simp), List.singleton_append] at hr
            obtain ⟨hn1, hv, hd⟩ := drop_cons dP hr
            obtain ⟨b1, b2⟩ := bringS_kind x.path x (c.members.getD i dMb)
            rw [← hv] at b1 b2
            try refine gl ?_
            refine br (fun k2 => ?_) (fun k2 => ?_)
            · rw [if_neg (by omega), if_pos k2] at b2
              try refine gl ?_
              refine br (fun k3 => ?_) (fun k3 => ?_)
              · exact absurd k3 (by omega)
              · try refine gl ?_
                repeat' (first | exact True.intro | (exfalso; omega) | (exfalso; contradiction) | (refine ⟨(i + 1, n + 1), ⟨by dsimp only; omega, by dsimp only; omega, hd⟩, (by dsimp only; omega), fits_of (gl ?_) (gl ?_) (gl ?_) (gl ?_) (gl ?_)⟩ <;> (first | exact True.intro | exact ⟨rfl, rfl⟩ | exact ⟨rfl, rfl, rfl⟩ | rfl | exact rowc (List.map_id _) | trivial); done) | refine br (fun h => ?_) (fun h => ?_) | refine gl ?_)
            · try refine gl ?_
              refine br (fun k3 => ?_) (fun k3 => ?_)
              · rw [if_pos k3] at b2
                try refine gl ?_
                repeat' (first | exact True.intro | (exfalso; omega) | (exfalso; contradiction) | (refine ⟨(i + 1, n + 1), ⟨by dsimp only; omega, by dsimp only; omega, hd⟩, (by dsimp only; omega), fits_of (gl ?_) (gl ?_) (gl ?_) (gl ?_) (gl ?_)⟩ <;> (first | exact True.intro | exact ⟨rfl, rfl⟩ | exact ⟨rfl, rfl, rfl⟩ | rfl | exact rowc (List.map_id _) | trivial); done) | refine br (fun h => ?_) (fun h => ?_) | refine gl ?_)
              · rw [if_neg k3, if_neg k2] at b2
                try refine gl ?_
                repeat' (first | exact True.intro | (exfalso; omega) | (exfalso; contradiction) | (refine ⟨(i + 1, n + 1), ⟨by dsimp only; omega, by dsimp only; omega, hd⟩, (by dsimp only; omega), fits_of (gl ?_) (gl ?_) (gl ?_) (gl ?_) (gl ?_)⟩ <;> (first | exact True.intro | exact ⟨rfl, rfl⟩ | exact ⟨rfl, rfl, rfl⟩ | rfl | exact rowc (List.map_id _) | trivial); done) | refine br (fun h => ?_) (fun h => ?_) | refine gl ?_)
        · rw [show c.m.ents.drop i = [] from List.drop_eq_nil_of_le (by omega), makesL] at hr
          have hl : n = os.length := by have := List.drop_eq_nil_iff.1 hr; omega
          subst hl
          try refine gl ?_
          refine cl (awake_ok) ?_
          refine gl ?_
          trivial
end Go.Proofs.YtjbnmeofjiokeaaGreatDoor.Ev
namespace Go.Proofs.YtjbnmeofjiokeaaGreatDoor.Ev
open Go.ChangeShapes Go.WideShapes Go.ChangeAt Go.RowKit Go.ChangeMaps
open Go.Proofs.YtjbnmeofjiokeaaGreatDoor.Mem
open Go.Shelf
open Go.Proofs.YtjbnmeofjiokeaaGreatDoor.Sha
set_option linter.unusedVariables false
set_option maxRecDepth 100000
theorem o_Rul {R : Nat} : OpV R Tryz.prog 76 3 eRul (fun x => x.name.length ≤ R ∧ x.ver.length ≤ R) := by
  intro H enc W base held m c x h hs
  obtain ⟨hl, n, hf⟩ := field_open Tryz.underlying76 h hs
  obtain ⟨y0, k0, r0⟩ := opv_field (off := 0) (opv_string Tryz.underlying9) (by kernel_rfl) (hf 0 _ rfl)
  obtain ⟨y1, k1, r1⟩ := opv_field (off := 1) (opv_int Tryz.underlying3) (by kernel_rfl) (hf 1 _ rfl)
  obtain ⟨y2, k2, r2⟩ := opv_field (off := 2) (opv_string Tryz.underlying9) (by kernel_rfl) (hf 2 _ rfl)
  exact ⟨⟨y0, y1, y2⟩, ⟨k0, k2⟩, hl.trans (by kernel_rfl), by have r := reps_cons (off := 0) r0 rfl (reps_cons (off := 1) r1 rfl (reps_cons (off := 2) r2 rfl (reps_nil W _))); rw [List.drop_zero] at r; exact r⟩
theorem o_Ent {R : Nat} : OpV R Tryz.prog 53 5 eEnt (fun x => x.path.length ≤ R ∧ x.target.length ≤ R ∧ x.sum.length ≤ R) := by
  intro H enc W base held m c x h hs
  obtain ⟨hl, n, hf⟩ := field_open Tryz.underlying53 h hs
  obtain ⟨y0, k0, r0⟩ := opv_field (off := 0) (opv_int Tryz.underlying3) (by kernel_rfl) (hf 0 _ rfl)
  obtain ⟨y1, k1, r1⟩ := opv_field (off := 1) (opv_int Tryz.underlying3) (by kernel_rfl) (hf 1 _ rfl)
  obtain ⟨y2, k2, r2⟩ := opv_field (off := 2) (opv_string Tryz.underlying9) (by kernel_rfl) (hf 2 _ rfl)
  obtain ⟨y3, k3, r3⟩ := opv_field (off := 3) (opv_string Tryz.underlying9) (by kernel_rfl) (hf 3 _ rfl)
  obtain ⟨y4, k4, r4⟩ := opv_field (off := 4) (opv_string Tryz.underlying9) (by kernel_rfl) (hf 4 _ rfl)
  exact ⟨⟨y0, y1, y2, y3, y4⟩, ⟨k3, k4, k2⟩, hl.trans (by kernel_rfl), by have r := reps_cons (off := 0) r0 rfl (reps_cons (off := 1) r1 rfl (reps_cons (off := 2) r2 rfl (reps_cons (off := 3) r3 rfl (reps_cons (off := 4) r4 rfl (reps_nil W _))))); rw [List.drop_zero] at r; exact r⟩
theorem o_Ruls {R : Nat} : OpV R Tryz.prog 27 1 (fun l : List Rul => V.sl 3 Rul dR l eRul) (fun l => (∀ x ∈ l, x.name.length ≤ R ∧ x.ver.length ≤ R) ∧ l.length * 40 ≤ R) :=
  opv_slice (ev := eRul) (k := 3) (b := 40) Tryz.underlying27 (by kernel_rfl) (by kernel_rfl) (by decide) (fun _ => rfl) (fun _ _ => rfl) dR o_Rul
theorem o_Ents {R : Nat} : OpV R Tryz.prog 28 1 (fun l : List Ent => V.sl 5 Ent dE l eEnt) (fun l => (∀ x ∈ l, x.path.length ≤ R ∧ x.target.length ≤ R ∧ x.sum.length ≤ R) ∧ l.length * 64 ≤ R) :=
  opv_slice (ev := eEnt) (k := 5) (b := 64) Tryz.underlying28 (by kernel_rfl) (by kernel_rfl) (by decide) (fun _ => rfl) (fun _ _ => rfl) dE o_Ent
theorem o_Man : OpV reachBytes Tryz.prog 30 5 eMan (fun m => m.Fit ∧ m.Big) := by
  intro H enc W base held m c x h hs
  obtain ⟨hl, n, hf⟩ := field_open Tryz.underlying30 h hs
  obtain ⟨y0, k0, r0⟩ := opv_field (off := 0) (opv_string Tryz.underlying9) (by kernel_rfl) (hf 0 _ rfl)
  obtain ⟨y1, k1, r1⟩ := opv_field (off := 1) (opv_string Tryz.underlying9) (by kernel_rfl) (hf 1 _ rfl)
  obtain ⟨y2, k2, r2⟩ := opv_field (off := 2) o_Ruls (by kernel_rfl) (hf 2 _ rfl)
  obtain ⟨y3, k3, r3⟩ := opv_field (off := 3) o_Ruls (by kernel_rfl) (hf 3 _ rfl)
  obtain ⟨y4, k4, r4⟩ := opv_field (off := 4) o_Ents (by kernel_rfl) (hf 4 _ rfl)
  simp only [reachBytes] at k0 k1 k2 k3 k4
  exact ⟨⟨y0, y1, y2, y3, y4⟩, ⟨⟨by dsimp only; omega, by dsimp only; omega, by dsimp only; omega, by dsimp only; omega, by dsimp only; omega, fun r hr => ⟨by have := (k2.1 r hr).1; omega, by have := (k2.1 r hr).2; omega⟩, fun r hr => ⟨by have := (k3.1 r hr).1; omega, by have := (k3.1 r hr).2; omega⟩, fun r hr => ⟨by have := (k4.1 r hr).1; omega, by have := (k4.1 r hr).2.1; omega, by have := (k4.1 r hr).2.2; omega⟩⟩, ⟨by dsimp only; omega, by dsimp only; omega, by dsimp only; omega⟩⟩, hl.trans (by kernel_rfl), by have r := reps_cons (off := 0) r0 rfl (reps_cons (off := 1) r1 rfl (reps_cons (off := 2) r2 rfl (reps_cons (off := 3) r3 rfl (reps_cons (off := 4) r4 rfl (reps_nil W _))))); rw [List.drop_zero] at r; exact r⟩
theorem o_Shr {R : Nat} : OpV R Tryz.prog 61 3 eShr (fun x => x.path.length ≤ R) := by
  intro H enc W base held m c x h hs
  obtain ⟨hl, n, hf⟩ := field_open Tryz.underlying61 h hs
  obtain ⟨y0, k0, r0⟩ := opv_field (off := 0) (opv_string Tryz.underlying9) (by kernel_rfl) (hf 0 _ rfl)
  obtain ⟨y1, k1, r1⟩ := opv_field (off := 1) (opv_int Tryz.underlying3) (by kernel_rfl) (hf 1 _ rfl)
  obtain ⟨y2, k2, r2⟩ := opv_field (off := 2) (opv_bool Tryz.underlying4) (by kernel_rfl) (hf 2 _ rfl)
  exact ⟨⟨y0, y1, y2⟩, k0, hl.trans (by kernel_rfl), by have r := reps_cons (off := 0) r0 rfl (reps_cons (off := 1) r1 rfl (reps_cons (off := 2) r2 rfl (reps_nil W _))); rw [List.drop_zero] at r; exact r⟩
theorem o_Shrs {R : Nat} : OpV R Tryz.prog 23 1 (fun l : List Shr => V.sl 3 Shr dS l eShr) (fun l => (∀ x ∈ l, x.path.length ≤ R) ∧ l.length * 32 ≤ R) :=
  opv_slice (ev := eShr) (k := 3) (b := 32) Tryz.underlying23 (by kernel_rfl) (by kernel_rfl) (by decide) (fun _ => rfl) (fun _ _ => rfl) dS o_Shr
theorem o_Mans : OpV reachBytes Tryz.prog 22 1 (fun l : List Man => V.sl 5 Man dMn l eMan) (fun l => (∀ x ∈ l, x.Fit ∧ x.Big) ∧ l.length * 104 ≤ reachBytes) :=
  opv_slice (ev := eMan) (k := 5) (b := 104) Tryz.underlying22 (by kernel_rfl) (by kernel_rfl) (by decide) (fun _ => rfl) (fun _ _ => rfl) dMn o_Man
theorem o_Bas : OpV reachBytes Tryz.prog 25 2 eBas Bas.Big := by
  intro H enc W base held m c x h hs
  obtain ⟨hl, n, hf⟩ := field_open Tryz.underlying25 h hs
  obtain ⟨y0, k0, r0⟩ := opv_field (off := 0) o_Mans (by kernel_rfl) (hf 0 _ rfl)
  obtain ⟨y1, k1, r1⟩ := opv_field (off := 1) o_Shrs (by kernel_rfl) (hf 1 _ rfl)
  simp only [reachBytes] at k0 k1
  exact ⟨⟨y0, y1⟩, ⟨by dsimp only; omega, by dsimp only; omega, k0.1, fun d hd => by have := k1.1 d hd; omega⟩, hl.trans (by kernel_rfl), by have r := reps_cons (off := 0) r0 rfl (reps_cons (off := 1) r1 rfl (reps_nil W _)); rw [List.drop_zero] at r; exact r⟩
theorem o_Stt {R : Nat} : OpV R Tryz.prog 55 8 eStt (fun x => x.data.length ≤ R ∧ x.path.length ≤ R) := by
  intro H enc W base held m c x h hs
  obtain ⟨hl, n, hf⟩ := field_open Tryz.underlying55 h hs
  obtain ⟨y0, k0, r0⟩ := opv_field (off := 0) (opv_string Tryz.underlying9) (by kernel_rfl) (hf 0 _ rfl)
  obtain ⟨y1, k1, r1⟩ := opv_field (off := 1) (opv_int Tryz.underlying3) (by kernel_rfl) (hf 1 _ rfl)
  obtain ⟨y2, k2, r2⟩ := opv_field (off := 2) (opv_int Tryz.underlying3) (by kernel_rfl) (hf 2 _ rfl)
  obtain ⟨y3, k3, r3⟩ := opv_field (off := 3) (opv_int Tryz.underlying3) (by kernel_rfl) (hf 3 _ rfl)
  obtain ⟨y4, k4, r4⟩ := opv_field (off := 4) (opv_int Tryz.underlying3) (by kernel_rfl) (hf 4 _ rfl)
  obtain ⟨y5, k5, r5⟩ := opv_field (off := 5) (opv_int Tryz.underlying3) (by kernel_rfl) (hf 5 _ rfl)
  obtain ⟨y6, k6, r6⟩ := opv_field (off := 6) (opv_int Tryz.underlying3) (by kernel_rfl) (hf 6 _ rfl)
  obtain ⟨y7, k7, r7⟩ := opv_field (off := 7) (opv_string Tryz.underlying9) (by kernel_rfl) (hf 7 _ rfl)
  exact ⟨⟨y0, y1, y2, y3, y4, y5, y6, y7⟩, ⟨k7, k0⟩, hl.trans (by kernel_rfl), by have r := reps_cons (off := 0) r0 rfl (reps_cons (off := 1) r1 rfl (reps_cons (off := 2) r2 rfl (reps_cons (off := 3) r3 rfl (reps_cons (off := 4) r4 rfl (reps_cons (off := 5) r5 rfl (reps_cons (off := 6) r6 rfl (reps_cons (off := 7) r7 rfl (reps_nil W _)))))))); rw [List.drop_zero] at r; exact r⟩
theorem o_Mbr {R : Nat} : OpV R Tryz.prog 59 8 eMbr (fun x => x.data.length ≤ R ∧ x.path.length ≤ R) := by
  intro H enc W base held m c x h hs
  obtain ⟨hl, n, hf⟩ := field_open Tryz.underlying59 h hs
  obtain ⟨y0, k0, r0⟩ := opv_field (off := 0) (opv_string Tryz.underlying9) (by kernel_rfl) (hf 0 _ rfl)
  obtain ⟨y1, k1, r1⟩ := opv_field (off := 1) (opv_int Tryz.underlying3) (by kernel_rfl) (hf 1 _ rfl)
  obtain ⟨y2, k2, r2⟩ := opv_field (off := 2) (opv_int Tryz.underlying3) (by kernel_rfl) (hf 2 _ rfl)
  obtain ⟨y3, k3, r3⟩ := opv_field (off := 3) (opv_int Tryz.underlying3) (by kernel_rfl) (hf 3 _ rfl)
  obtain ⟨y4, k4, r4⟩ := opv_field (off := 4) (opv_int Tryz.underlying3) (by kernel_rfl) (hf 4 _ rfl)
  obtain ⟨y5, k5, r5⟩ := opv_field (off := 5) (opv_int Tryz.underlying3) (by kernel_rfl) (hf 5 _ rfl)
  obtain ⟨y6, k6, r6⟩ := opv_field (off := 6) (opv_string Tryz.underlying9) (by kernel_rfl) (hf 6 _ rfl)
  obtain ⟨y7, k7, r7⟩ := opv_field (off := 7) (opv_string Tryz.underlying9) (by kernel_rfl) (hf 7 _ rfl)
  exact ⟨⟨y0, y1, y2, y3, y4, y5, y6, y7⟩, ⟨k7, k0⟩, hl.trans (by kernel_rfl), by have r := reps_cons (off := 0) r0 rfl (reps_cons (off := 1) r1 rfl (reps_cons (off := 2) r2 rfl (reps_cons (off := 3) r3 rfl (reps_cons (off := 4) r4 rfl (reps_cons (off := 5) r5 rfl (reps_cons (off := 6) r6 rfl (reps_cons (off := 7) r7 rfl (reps_nil W _)))))))); rw [List.drop_zero] at r; exact r⟩
theorem o_Stts {R : Nat} : OpV R Tryz.prog 26 1 (fun l : List Stt => V.sl 8 Stt dT l eStt) (fun l => (∀ x ∈ l, x.data.length ≤ R ∧ x.path.length ≤ R) ∧ l.length * 80 ≤ R) :=
  opv_slice (ev := eStt) (k := 8) (b := 80) Tryz.underlying26 (by kernel_rfl) (by kernel_rfl) (by decide) (fun _ => rfl) (fun _ _ => rfl) dT o_Stt
theorem o_Mbrs {R : Nat} : OpV R Tryz.prog 31 1 (fun l : List Mbr => V.sl 8 Mbr dMb l eMbr) (fun l => (∀ x ∈ l, x.data.length ≤ R ∧ x.path.length ≤ R) ∧ l.length * 88 ≤ R) :=
  opv_slice (ev := eMbr) (k := 8) (b := 88) Tryz.underlying31 (by kernel_rfl) (by kernel_rfl) (by decide) (fun _ => rfl) (fun _ _ => rfl) dMb o_Mbr
theorem o_Cse : OpV reachBytes Tryz.prog 33 9 eCse Cse.Big := by
  intro H enc W base held m c x h hs
  obtain ⟨hl, n, hf⟩ := field_open Tryz.underlying33 h hs
  obtain ⟨y0, k0, r0⟩ := opv_field (off := 0) o_Bas (by kernel_rfl) (hf 0 _ rfl)
  obtain ⟨y1, k1, r1⟩ := opv_field (off := 2) o_Stts (by kernel_rfl) (hf 1 _ rfl)
  obtain ⟨y2, k2, r2⟩ := opv_field (off := 3) o_Man (by kernel_rfl) (hf 2 _ rfl)
  obtain ⟨y3, k3, r3⟩ := opv_field (off := 8) o_Mbrs (by kernel_rfl) (hf 3 _ rfl)
  simp only [reachBytes] at k1 k3
  exact ⟨⟨y0, y1, y2, y3⟩, ⟨k0, by have := k1.2; dsimp only; omega, fun s hs => by have := (k1.1 s hs).1; omega, k2, by have := k3.2; dsimp only; omega⟩, hl.trans (by kernel_rfl), by have r := reps_cons (off := 0) r0 rfl (reps_cons (off := 2) r1 rfl (reps_cons (off := 3) r2 rfl (reps_cons (off := 8) r3 rfl (reps_nil W _)))); rw [List.drop_zero] at r; exact r⟩
/-! ### The laid tables -/
theorem arr_cells {H : Type} {enc : TypeId × Value → H} {P : Program} {w : World} {base : Nat} {sp : Nat → Bool} {held : Bool} {fuel n : Nat} {t e : TypeId} {k : IntKind} {cs : List Value} {q : List MemPlace} {L : List Int}
    (ht : P.underlying t = some (.array n e)) (he : P.underlying e = some (.int k)) (hc : P.cellsOf e = 1)
    (hd : DataW.trod enc P w base sp held fuel t cs = some (.agg (L.map fun x => .lit (.int k x)), q)) (i : Nat) (hi : i < n) (x : Int) (hx : L[i]? = some x) : cs[i]? = some (.int k x) := by
  obtain ⟨xs, m, rfl, hxs, _, _, hel⟩ := DataW.trod_array ht hd
  have h0 := hel i hi
  rw [hc, Nat.mul_one] at h0
  simp only [Prod.mk.injEq, DataW.agg.injEq] at hxs
  have h1 : (L.map fun x => DataW.lit (H := H) (.int k x))[i]? = (xs.map (·.1))[i]? := by rw [hxs.1]
  rw [List.getElem?_map, List.getElem?_map, hx] at h1
  cases hxi : xs[i]? with
  | none => rw [hxi] at h1; cases h1
  | some y =>
    rw [hxi] at h0 h1
    obtain ⟨n', e1, e2, _⟩ := DataW.trod_int he h0
    rw [e2] at h1
    simp only [Option.map_some, Option.some.injEq, DataW.lit.injEq, Lit.int.injEq, true_and] at h1
    subst h1
    have h2 := congrArg (·[0]?) e1
    simp only [List.getElem?_take, List.getElem?_drop] at h2
    simpa using h2
theorem gT : Tryz.prog.globalNamed "holdall/digest.k" = some 0 := by kernel_rfl
theorem laid_T : (Rows.laid_holdall_digest_k : DataW Unit) = .agg ((ktab.map nt).map fun x => .lit (.int .u32 x)) := by kernel_rfl
theorem ktab_at (j : Nat) (h : j < 64) : (ktab.map nt)[j]? = some (nt (kt j)) := by
  have hl : ktab.length = 64 := by decide +kernel
  rw [List.getElem?_map, List.getElem?_eq_getElem (by omega)]
  unfold kt
  rw [List.getD_eq_getElem?_getD, List.getElem?_eq_getElem (by omega)]; rfl
theorem kt_of {W : World} {g : Nat} {nm : String} {t : TypeId} {cs : Array Value} {fuel : Nat} {q : List MemPlace} {e : TypeId} {enc : TypeId × Value → Unit} {base : Nat} {sp : Nat → Bool} {held : Bool}
    (hg : Tryz.prog.globalNamed nm = some g) (ht : Tryz.prog.underlying t = some (.array 64 e)) (he : Tryz.prog.underlying e = some (.int .u32)) (hc : Tryz.prog.cellsOf e = 1)
    (hv : W.var? Tryz.prog nm = some cs) (hd : DataW.trod enc Tryz.prog W base sp held fuel t cs.toList = some (.agg ((ktab.map nt).map fun x => .lit (.int .u32 x)), q)) : KT g W := by
  intro j hj
  rw [World.var?_cell hg hv j]
  have := arr_cells ht he hc hd j hj _ (ktab_at j hj)
  simpa using this
theorem t0 : (Tryz.prog.globals[0]?).map (·.type) = some 135 := by kernel_rfl
theorem c32 : Tryz.prog.cellsOf 124 = 1 := by kernel_rfl
def laidL : List (String × DataW Unit) := [("holdall/digest.k", Rows.laid_holdall_digest_k), ("unicode/utf8.acceptRanges", Rows.laid_unicode_utf8_acceptRanges), ("unicode/utf8.first", Rows.laid_unicode_utf8_first)]
theorem of_tab {W : World} (h : laidMetH Tryz.prog laidL W) : KT 0 W := by
  rw [MakeChecks.laidMetH_plain _ _ _ (by kernel_rfl)] at h
  obtain ⟨ps, ⟨g0, u0, cs0, f0, p0, q0, hg0, ht0, hv0, hd0, _⟩, _⟩ := h
  obtain rfl := Option.some.inj (gT.symm.trans hg0)
  obtain rfl := Option.some.inj (t0.symm.trans ht0)
  rw [laid_T] at hd0
  exact kt_of hg0 Tryz.underlying135 Tryz.underlying124 c32 hv0 hd0
theorem acc_eq : (Rows.laid_unicode_utf8_acceptRanges : DataW Unit) = Lib.acceptData := by kernel_rfl
theorem fst_eq : Rows.laid_unicode_utf8_first = Lib.firstData := by kernel_rfl
theorem laid_ofM {W : World} (hL : laidMetH Tryz.prog laidL W) (hS : W.ShapedOpen Tryz.prog) : LL W := by
  refine ⟨⟨?_, Tryz.laysM145.s1_3 W hS⟩, of_tab hL⟩
  have h1 := Lib.laidMet.reads hL (.tail _ (.tail _ (.head _)))
  have h2 := Lib.laidMet.reads hL (.tail _ (.head _))
  rw [fst_eq] at h1
  rw [acc_eq] at h2
  exact utf8Tabs_of_readsT (U8Types.of196 Tryz.laysValid) ⟨by kernel_rfl, by kernel_rfl, by kernel_rfl, by kernel_rfl, by kernel_rfl, by kernel_rfl, by kernel_rfl⟩ h1 h2
noncomputable def laidWorld (os : Os) : World :=
  let w0 := World.holding Tryz.prog os ⟨#[], #[], []⟩
  let put (h : Array Obj) (g : Nat) (cs : Array Value) : Array Obj := h.modify g fun
    | .cells _ t frozen => .cells cs t frozen
    | o => o
  let h0 := put w0.heap 0 (ktab.map fun z => Value.int .u32 (nt z)).toArray
  let h1 := put h0 2 (Lib.firstTab.map fun z => Value.int .u8 z).toArray
  let h2 := put h1 3 ((List.range 16).flatMap fun i => [Value.int .u8 (Lib.accLo i), Value.int .u8 (Lib.accHi i)]).toArray
  { w0 with heap := h2 }
theorem laid_metM (os : Os) (args : Array Value) : laidMet Tryz.prog laidL ((laidWorld os).forCall (fun _ _ => 0) ⟨#[], args, []⟩).memory :=
by
  unfold laidL
  rw [acc_eq, fst_eq, laid_T]
  exact (LaidIn.of_run (l := [("holdall/digest.k", .agg ((ktab.map nt).map fun x => .lit (.int .u32 x))), ("unicode/utf8.acceptRanges", Lib.acceptData), ("unicode/utf8.first", Lib.firstData)]) [0, 3, 2] 8 (by kernel_rfl) (by kernel_rfl) (by kernel_rfl) (by kernel_rfl)).met
end Go.Proofs.YtjbnmeofjiokeaaGreatDoor.Ev
