/- Archives: what a header tells. -/
import Derived.Test.YtikmkgoeepgbkaaGreatDoorTg
set_option linter.all false
namespace Go.Proofs.YtikmkgoeepgbkaaGreatDoor.Ev
open Go.RowKit
open Go.Proofs.YtikmkgoeepgbkaaGreatDoor.Mem
set_option linter.unusedVariables false
set_option linter.unusedSimpArgs false
set_option maxRecDepth 100000
theorem block_ok {r : Rdr} (h : r.Ok) : (blockM r).2.2.Ok := by
  unfold blockM
  split
  · exact h
  · exact ⟨h.text, by dsimp only; omega, h.ap, h.tg, h.nx, h.nl⟩
theorem bytes_ok {r : Rdr} (h : r.Ok) (n : Nat) : (bytesM r n).2.2.Ok := by
  unfold bytesM
  split
  · exact h
  · rename_i e
    exact ⟨h.text, by dsimp only; omega, h.ap, h.tg, h.nx, h.nl⟩
theorem dgs_nn : ∀ (s : List UInt8) (a : Nat), 0 ≤ (dgsM s a).1
  | [], a => by unfold dgsM; omega
  | b :: r, a => by
    unfold dgsM
    split
    · exact Int.le_refl _
    · exact dgs_nn r _
theorem numb_nn (n : Nt) {o : Int} (h : 0 ≤ o) : 0 ≤ (numbM n o).1 := by
  unfold numbM
  split
  · exact h
  · split
    · exact Int.le_refl _
    · exact dgs_nn _ _
def dataM (r : Rdr) (h : Hdr) (k : Int) (n : Nts) : List UInt8 × Int × Rdr :=
  if ¬ k = 1 then ([], 0, r) else if ¬ (numbM n.size h.size).2 = 0 then ([], (numbM n.size h.size).2, r) else if 1048576 < (numbM n.size h.size).1 then ([], 3, r) else bytesM r (numbM n.size h.size).1.toNat
theorem tdata_ok (r : Rdr) (h : Hdr) (k : Int) (n : Nts) (hr : r.Ok) (hs : 0 ≤ h.size) : SpecP Tryz.prog LL 91 [.p 1000000000 0, eHdr h, .n .i64 k, eNts n] [(1000000000, bkR r 0), (0, rE r.mem)] (.tp [.s (dataM r h k n).1, .n .i64 (dataM r h k n).2.1]) [(1000000000, bkR (dataM r h k n).2.2 0), (0, rE (dataM r h k n).2.2.mem)] := by
  refine spec_ofP' (C := ⟨Tryz.prog, LL, EE, []⟩) (rl := [.s (dataM r h k n).1, .n .i64 (dataM r h k n).2.1]) (rs := [.tmp 8, .tmp 9]) CCx LLs Tryz.func91 rfl (by kernel_rfl) rfl (by kernel_rfl) (Nat.le_of_ble_eq_true rfl) rfl rfl rfl rfl rfl rfl rfl rfl (by decide) ?_
  refine gr ?_
  obtain ⟨q, hq⟩ : ∃ q, q = dataM r h k n := ⟨_, rfl⟩
  rw [← hq]
  unfold dataM at hq
  refine br (fun a => ?_) (fun a => ?_)
  · rw [if_pos a] at hq
    subst hq
    try refine gr ?_
    refine outP [] id ?_ ?_ ?_
    all_goals first | trivial | (refine gr ?_; first | trivial | rfl)
  · rw [if_neg a] at hq
    try refine gr ?_
    refine cl (tnumber_ok n.size h.size) ?_
    refine gr ?_
    have hnn := numb_nn n.size hs
    generalize numbM n.size h.size = w at hq hnn ⊢
    obtain ⟨w1, w2⟩ := w
    dsimp only at hq hnn ⊢
    refine br (fun b => ?_) (fun b => ?_)
    · rw [if_pos b] at hq
      subst hq
      try refine gr ?_
      refine outP [] id ?_ ?_ ?_
      all_goals first | trivial | (refine gr ?_; first | trivial | rfl)
    · rw [if_neg b] at hq
      try refine gr ?_
      refine br (fun c => ?_) (fun c => ?_)
      · rw [if_pos c] at hq
        subst hq
        try refine gr ?_
        refine outP [] id ?_ ?_ ?_
        all_goals first | trivial | (refine gr ?_; first | trivial | rfl)
      · rw [if_neg c] at hq
        obtain ⟨m, rfl⟩ : ∃ m : Nat, w1 = (m : Int) := ⟨w1.toNat, by omega⟩
        rw [Int.toNat_natCast] at hq
        try refine gr ?_
        refine cp (fun i => i) (fun i => if i = 0 then 80 else i) (tbytes_ok r m hr (by omega)) (gr ?_) (gr ?_) (gr ?_) (gr ?_) (gr ?_) ?_
        · first | trivial | exact ⟨rfl, rfl⟩ | exact ⟨rfl, rfl, rfl⟩ | exact le_refl _
        · first | trivial | exact ⟨rfl, rfl⟩ | exact ⟨rfl, rfl, rfl⟩ | exact le_refl _
        · first | trivial | exact ⟨rfl, rfl⟩ | exact ⟨rfl, rfl, rfl⟩ | exact le_refl _
        · first | trivial | exact ⟨rfl, rfl⟩ | exact ⟨rfl, rfl, rfl⟩ | exact le_refl _
        · first | trivial | exact ⟨rfl, rfl⟩ | exact ⟨rfl, rfl, rfl⟩ | exact le_refl _
        refine gr ?_
        subst hq
        try refine gr ?_
        refine outP [] (fun i => if i = 0 then 80 else i) ?_ ?_ ?_
        all_goals first | trivial | (refine gr ?_; first | trivial | rfl)
def slB : List UInt8 := [47]
def nameM (h : Hdr) (k : Int) (n : Nts) : List UInt8 :=
  if k = 2 then Lib.trimSuffix (orM n.path (if h.pre = [] then h.name else h.pre ++ (47 :: h.name))) [47] else orM n.path (if h.pre = [] then h.name else h.pre ++ (47 :: h.name))
theorem tname_ok (h : Hdr) (k : Int) (n : Nts) (h1 : h.name.length ≤ 1000000) (h2 : h.pre.length ≤ 1000000) (h3 : n.path.text.length ≤ 4194304) : Spec Tryz.prog LL 92 [eHdr h, .n .i64 k, eNts n] (.s (nameM h k n)) := by
  refine spec_of (C := ⟨Tryz.prog, LL, EE, []⟩) (rl := [.s (nameM h k n)]) (rs := [.tmp 6]) CCx LLs Tryz.func92 rfl (by kernel_rfl) rfl (by kernel_rfl) (Nat.le_of_ble_eq_true rfl) (fun i => rfl) (fun i => by first | rfl | exact (Bool.or_false _).trans (eSd_men _ _)) rfl (by decide) ?_
  refine gr ?_
  unfold nameM
  refine br (fun a => ?_) (fun a => ?_)
  · rw [if_neg a]
    try refine gr ?_
    refine cl (tor_ok n.path (h.pre ++ 47 :: h.name)) ?_
    refine gr ?_
    have hl : (orM n.path (h.pre ++ 47 :: h.name)).length ≤ 4194304 := by unfold orM; split <;> (try simp) <;> omega
    generalize orM n.path (h.pre ++ 47 :: h.name) = w at hl ⊢
    refine br (fun b => ?_) (fun b => ?_)
    · rw [if_pos b]
      try refine gr ?_
      refine cl (trimsuf_ok w [47] (by omega)) ?_
      refine gr ?_
      trivial
    · rw [if_neg b]
      try refine gr ?_
      trivial
  · rw [if_pos (Decidable.not_not.1 a)]
    try refine gr ?_
    refine cl (tor_ok n.path h.name) ?_
    refine gr ?_
    have hl : (orM n.path h.name).length ≤ 4194304 := by unfold orM; split <;> (try simp) <;> omega
    generalize orM n.path h.name = w at hl ⊢
    refine br (fun b => ?_) (fun b => ?_)
    · rw [if_pos b]
      try refine gr ?_
      refine cl (trimsuf_ok w [47] (by omega)) ?_
      refine gr ?_
      trivial
    · rw [if_neg b]
      try refine gr ?_
      trivial
end Go.Proofs.YtikmkgoeepgbkaaGreatDoor.Ev
