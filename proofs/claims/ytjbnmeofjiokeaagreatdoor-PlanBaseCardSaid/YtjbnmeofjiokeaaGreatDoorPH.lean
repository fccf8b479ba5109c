/- Databases: one package less; two that are the same. -/
import Derived.Test.YtjbnmeofjiokeaaGreatDoorPF
import Derived.Test.YtjbnmeofjiokeaaGreatDoorNF
import Derived.Test.YtjbnmeofjiokeaaGreatDoorPG
set_option linter.all false
namespace Go.Proofs.YtjbnmeofjiokeaaGreatDoor.Ev
open Go.RowKit
open Go.Proofs.YtjbnmeofjiokeaaGreatDoor.Mem
set_option linter.unusedVariables false
set_option linter.unusedSimpArgs false
set_option maxRecDepth 100000
theorem findM_fit {l : List Man} (h : ∀ m ∈ l, m.Fit ∧ m.Big) (w : List UInt8) : (findM l w).1.Fit ∧ (findM l w).1.Big := by
  induction l with
  | nil => exact dM_fb
  | cons m r ih =>
    unfold findM
    split
    · exact h m (by simp)
    · exact ih fun x hx => h x (by simp [hx])
set_option maxHeartbeats 4000000 in
theorem owithout_ok (b : Bas) (w : List UInt8) (hb : b.Big) (hr0 : ∀ d ∈ b.dirs, -4611686018427387904 ≤ d.refs ∧ d.refs ≤ 4611686018427387904) : Spec Tryz.prog LL 23 [eBas b, .s w] (eBas (withoutB b w)) := by
  refine spec_of (C := ⟨Tryz.prog, LL, EE, []⟩) (rl := [eBas (withoutB b w)]) (rs := [.cell 4 25]) CCx LLs Tryz.func23 rfl (by kernel_rfl) rfl (by kernel_rfl) (Nat.le_of_ble_eq_true rfl) (fun i => rfl) (fun i => by first | rfl | exact (Bool.or_false _).trans (eSd_men _ _)) rfl (by decide) ?_
  refine gb ?_
  have hbp := hb.p
  have hbd := hb.d
  have hbm := hb.m
  have hf := findM_fit hbm w
  have h0 : withoutB b w = ⟨b.packs.filter fun m => decide (m.name ≠ w), b.dirs.filterMap (goD (findM b.packs w).1.ents)⟩ := rfl
  refine cl (find_ok b w hb) ?_
  refine gb ?_
  generalize findM b.packs w = fm at hf h0 ⊢
  obtain ⟨f, ok⟩ := fm
  dsimp only at hf h0 ⊢
  refine lp_nilc 7 25 [.nl, .nl] 0 201 30 hMa (gb ?_) (gb ?_) (gb ?_) ?_
  · trivial
  · trivial
  · trivial
  refine lp_nilc 7 25 [.ow 201 0, .nl] 1 202 61 hSh (gb ?_) (gb ?_) (gb ?_) ?_
  · trivial
  · trivial
  · trivial
  refine lp_hr [1, 2, 4, 5, 7, 19, 20] [2, 4, 5] (fun x : Nat × List Man => [(7, .p 7 0), (21, .n .i64 (x.1 : Int))]) (fun x : Nat × List Man => [(7, .cells 25 [.ow 201 x.2.length, .ow 202 0]), (201, rM x.2), (202, rSh [])]) (fun x : Nat × List Man => x.1 ≤ b.packs.length ∧ x.2.length ≤ x.1 ∧ b.packs.filter (fun m => decide (m.name ≠ w)) = x.2 ++ (b.packs.drop x.1).filter (fun m => decide (m.name ≠ w))) (fun x : Nat × List Man => b.packs.length - x.1) ((0, [])) id ⟨Nat.zero_le _, Nat.le_refl _, rfl⟩ (fits_of (gb ?_) (gb ?_) (gb ?_) (gb ?_) (gb ?_)) ?_
  · first | exact True.intro | exact ⟨rfl, rfl⟩ | exact ⟨rfl, rfl, rfl⟩ | rfl | exact rowc (List.map_id _) | trivial
  · first | exact True.intro | exact ⟨rfl, rfl⟩ | exact ⟨rfl, rfl, rfl⟩ | rfl | exact rowc (List.map_id _) | trivial
  · first | exact True.intro | exact ⟨rfl, rfl⟩ | exact ⟨rfl, rfl, rfl⟩ | rfl | exact rowc (List.map_id _) | trivial
  · first | exact True.intro | exact ⟨rfl, rfl⟩ | exact ⟨rfl, rfl, rfl⟩ | rfl | exact rowc (List.map_id _) | trivial
  · first | exact True.intro | exact ⟨rfl, rfl⟩ | exact ⟨rfl, rfl, rfl⟩ | rfl | exact rowc (List.map_id _) | trivial
  rintro ⟨i, out⟩ ⟨hi, ho, hr⟩
  dsimp only at hi ho hr ⊢
  try refine gb ?_
  refine br (fun e => ?_) (fun e => ?_)
  · rw [drop_at b.packs i dMn (by omega)] at hr
    have hm := hbm _ (getD_mem (x := dMn) (show i < b.packs.length by omega))
    try refine gb ?_
    generalize b.packs.getD i dMn = x at hr hm
    refine br (fun c => ?_) (fun c => ?_)
    · rw [List.filter_cons, if_pos (decide_eq_true c)] at hr
      try refine gb ?_
      refine cd (copied_ok x hm.2) ?_
      refine gb ?_
      refine .inr ?_
      refine ⟨(i + 1, out ++ [x]), fun i => if i = 201 then 34 else i, ⟨by dsimp only; omega, by simp; omega, by rw [hr]; simp⟩, (by dsimp only; omega), fits_of (gb ?_) (gb ?_) (gb ?_) (gb ?_) (gb ?_)⟩
      · first | exact True.intro | exact ⟨rfl, rfl⟩ | exact ⟨rfl, rfl, rfl⟩ | rfl | exact rowc (List.map_id _) | trivial
      · first | exact True.intro | exact ⟨rfl, rfl⟩ | exact ⟨rfl, rfl, rfl⟩ | rfl | exact rowc (List.map_id _) | trivial
      · first | exact True.intro | exact ⟨rfl, rfl⟩ | exact ⟨rfl, rfl, rfl⟩ | rfl | exact rowc (List.map_id _) | trivial
      · (first | trivial | exact ⟨rfl, rfl⟩ | exact ⟨rfl, rfl, rfl⟩ | simp)
      · first | exact True.intro | exact ⟨rfl, rfl⟩ | exact ⟨rfl, rfl, rfl⟩ | rfl | exact rowc (List.map_id _) | trivial
    · rw [List.filter_cons, if_neg (fun e => c (of_decide_eq_true e))] at hr
      try refine gb ?_
      refine ⟨(i + 1, out), id, ⟨by dsimp only; omega, by dsimp only; omega, hr⟩, (by dsimp only; omega), fits_of (gb ?_) (gb ?_) (gb ?_) (gb ?_) (gb ?_)⟩
      · first | exact True.intro | exact ⟨rfl, rfl⟩ | exact ⟨rfl, rfl, rfl⟩ | rfl | exact rowc (List.map_id _) | trivial
      · first | exact True.intro | exact ⟨rfl, rfl⟩ | exact ⟨rfl, rfl, rfl⟩ | rfl | exact rowc (List.map_id _) | trivial
      · first | exact True.intro | exact ⟨rfl, rfl⟩ | exact ⟨rfl, rfl, rfl⟩ | rfl | exact rowc (List.map_id _) | trivial
      · first | exact True.intro | exact ⟨rfl, rfl⟩ | exact ⟨rfl, rfl, rfl⟩ | rfl | exact rowc (List.map_id _) | trivial
      · first | exact True.intro | exact ⟨rfl, rfl⟩ | exact ⟨rfl, rfl, rfl⟩ | rfl | exact rowc (List.map_id _) | trivial
  · rw [List.drop_eq_nil_of_le (by omega), List.filter_nil, List.append_nil] at hr
    rw [hr] at h0
    clear hr
    try refine gb ?_
    refine lp_hr [4, 5, 7, 38, 39] [4, 5] (fun x : Nat × List Shr => [(7, .p 7 0), (40, .n .i64 (x.1 : Int))]) (fun x : Nat × List Shr => [(7, .cells 25 [.ow 201 out.length, .ow 202 x.2.length]), (201, rM out), (202, rSh x.2)]) (fun x : Nat × List Shr => x.1 ≤ b.dirs.length ∧ x.2.length ≤ x.1 ∧ b.dirs.filterMap (goD f.ents) = x.2 ++ (b.dirs.drop x.1).filterMap (goD f.ents)) (fun x : Nat × List Shr => b.dirs.length - x.1) ((0, [])) id ⟨Nat.zero_le _, Nat.le_refl _, rfl⟩ (fits_of (gb ?_) (gb ?_) (gb ?_) (gb ?_) (gb ?_)) ?_
    · first | exact True.intro | exact ⟨rfl, rfl⟩ | exact ⟨rfl, rfl, rfl⟩ | rfl | exact rowc (List.map_id _) | trivial
    · first | exact True.intro | exact ⟨rfl, rfl⟩ | exact ⟨rfl, rfl, rfl⟩ | rfl | exact rowc (List.map_id _) | trivial
    · first | exact True.intro | exact ⟨rfl, rfl⟩ | exact ⟨rfl, rfl, rfl⟩ | rfl | exact rowc (List.map_id _) | trivial
    · first | exact True.intro | exact ⟨rfl, rfl⟩ | exact ⟨rfl, rfl, rfl⟩ | rfl | exact rowc (List.map_id _) | trivial
    · first | exact True.intro | exact ⟨rfl, rfl⟩ | exact ⟨rfl, rfl, rfl⟩ | rfl | exact rowc (List.map_id _) | trivial
    rintro ⟨j, o2⟩ ⟨hj, ho2, hr⟩
    dsimp only at hj ho2 hr ⊢
    try refine gb ?_
    refine br (fun e => ?_) (fun e => ?_)
    · rw [drop_at b.dirs j dS (by omega), List.filterMap_cons] at hr
      have hd := hr0 _ (getD_mem (x := dS) (show j < b.dirs.length by omega))
      try refine gb ?_
      generalize b.dirs.getD j dS = d at hr hd ⊢
      refine cl (hasDir2_ok f d.path hf.1.el) ?_
      refine gb ?_
      rw [show goD f.ents d = if dirB2 f.ents d.path = true then (if d.refs - 1 ≤ 0 then none else some ⟨d.path, d.refs - 1, d.made⟩) else some d from rfl] at hr
      refine br (fun c => ?_) (fun c => ?_)
      · rw [if_pos c] at hr
        try refine gb ?_
        refine br (fun c2 => ?_) (fun c2 => ?_)
        · rw [if_pos c2] at hr
          try refine gb ?_
          refine ⟨(j + 1, o2), id, ⟨by dsimp only; omega, by dsimp only; omega, hr⟩, (by dsimp only; omega), fits_of (gb ?_) (gb ?_) (gb ?_) (gb ?_) (gb ?_)⟩
          · first | exact True.intro | exact ⟨rfl, rfl⟩ | exact ⟨rfl, rfl, rfl⟩ | rfl | exact rowc (List.map_id _) | trivial
          · first | exact True.intro | exact ⟨rfl, rfl⟩ | exact ⟨rfl, rfl, rfl⟩ | rfl | exact rowc (List.map_id _) | trivial
          · first | exact True.intro | exact ⟨rfl, rfl⟩ | exact ⟨rfl, rfl, rfl⟩ | rfl | exact rowc (List.map_id _) | trivial
          · first | exact True.intro | exact ⟨rfl, rfl⟩ | exact ⟨rfl, rfl, rfl⟩ | rfl | exact rowc (List.map_id _) | trivial
          · first | exact True.intro | exact ⟨rfl, rfl⟩ | exact ⟨rfl, rfl, rfl⟩ | rfl | exact rowc (List.map_id _) | trivial
        · rw [if_neg c2] at hr
          try refine gb ?_
          refine .inr ?_
          refine ⟨(j + 1, o2 ++ [⟨d.path, d.refs - 1, d.made⟩]), fun i => if i = 202 then 59 else i, ⟨by dsimp only; omega, by simp; omega, by rw [hr]; simp⟩, (by dsimp only; omega), fits_of (gb ?_) (gb ?_) (gb ?_) (gb ?_) (gb ?_)⟩
          · first | exact True.intro | exact ⟨rfl, rfl⟩ | exact ⟨rfl, rfl, rfl⟩ | rfl | exact rowc (List.map_id _) | trivial
          · first | exact True.intro | exact ⟨rfl, rfl⟩ | exact ⟨rfl, rfl, rfl⟩ | rfl | exact rowc (List.map_id _) | trivial
          · first | exact True.intro | exact ⟨rfl, rfl⟩ | exact ⟨rfl, rfl, rfl⟩ | rfl | exact rowc (List.map_id _) | trivial
          · (first | trivial | exact ⟨rfl, rfl⟩ | exact ⟨rfl, rfl, rfl⟩ | simp)
          · first | exact True.intro | exact ⟨rfl, rfl⟩ | exact ⟨rfl, rfl, rfl⟩ | rfl | exact rowc (List.map_id _) | trivial
      · rw [if_neg c] at hr
        try refine gb ?_
        refine .inr ?_
        refine ⟨(j + 1, o2 ++ [d]), fun i => if i = 202 then 59 else i, ⟨by dsimp only; omega, by simp; omega, by rw [hr]; simp⟩, (by dsimp only; omega), fits_of (gb ?_) (gb ?_) (gb ?_) (gb ?_) (gb ?_)⟩
        · first | exact True.intro | exact ⟨rfl, rfl⟩ | exact ⟨rfl, rfl, rfl⟩ | rfl | exact rowc (List.map_id _) | trivial
        · first | exact True.intro | exact ⟨rfl, rfl⟩ | exact ⟨rfl, rfl, rfl⟩ | rfl | exact rowc (List.map_id _) | trivial
        · first | exact True.intro | exact ⟨rfl, rfl⟩ | exact ⟨rfl, rfl, rfl⟩ | rfl | exact rowc (List.map_id _) | trivial
        · (first | trivial | exact ⟨rfl, rfl⟩ | exact ⟨rfl, rfl, rfl⟩ | simp)
        · first | exact True.intro | exact ⟨rfl, rfl⟩ | exact ⟨rfl, rfl, rfl⟩ | rfl | exact rowc (List.map_id _) | trivial
    · rw [List.drop_eq_nil_of_le (by omega), List.filterMap_nil, List.append_nil] at hr
      rw [hr] at h0
      try refine gb ?_
      rw [h0]
      exact le_refl _
end Go.Proofs.YtjbnmeofjiokeaaGreatDoor.Ev
namespace Go.Proofs.YtjbnmeofjiokeaaGreatDoor.Ev
open Go.RowKit
open Go.Proofs.YtjbnmeofjiokeaaGreatDoor.Mem
set_option linter.unusedVariables false
set_option linter.unusedSimpArgs false
set_option maxRecDepth 100000
end Go.Proofs.YtjbnmeofjiokeaaGreatDoor.Ev
namespace Go.Proofs.YtjbnmeofjiokeaaGreatDoor.Ev
open Go.RowKit
open Go.Proofs.YtjbnmeofjiokeaaGreatDoor.Mem
set_option linter.unusedVariables false
set_option linter.unusedSimpArgs false
set_option maxRecDepth 100000
end Go.Proofs.YtjbnmeofjiokeaaGreatDoor.Ev
