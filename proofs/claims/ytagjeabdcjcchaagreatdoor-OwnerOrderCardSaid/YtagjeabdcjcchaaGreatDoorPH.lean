/- Databases: one package less; two that are the same. -/
import Derived.Test.YtagjeabdcjcchaaGreatDoorPF
import Derived.Test.YtagjeabdcjcchaaGreatDoorNF
import Derived.Test.YtagjeabdcjcchaaGreatDoorPG
set_option linter.all false
namespace Go.Proofs.YtagjeabdcjcchaaGreatDoor.Ev
open Go.RowKit
open Go.Proofs.YtagjeabdcjcchaaGreatDoor.Mem
set_option linter.unusedVariables false
set_option linter.unusedSimpArgs false
set_option maxRecDepth 100000
theorem findM_fit {l : List Man} (h : ∀ m ∈ l, m.Fit ∧ m.Big) (w : List UInt8) : (findM l w).1.Fit ∧ (findM l w).1.Big := by
  induction l with
  | nil => exact dM_fb
  | cons m r ih =>
    unfold findM
    split
    · exact h m (by simp)
    · exact ih fun x hx => h x (by simp [hx])
set_option maxHeartbeats 4000000 in
theorem owithout_ok (b : Bas) (w : List UInt8) (hb : b.Big) (hr0 : ∀ d ∈ b.dirs, -4611686018427387904 ≤ d.refs ∧ d.refs ≤ 4611686018427387904) : Spec Tryz.prog LL 27 [eBas b, .s w] (eBas (withoutB b w)) := by
  refine spec_of (C := ⟨Tryz.prog, LL, EE, []⟩) (rl := [eBas (withoutB b w)]) (rs := [.cell 4 25]) CCx LLs Tryz.func27 rfl (by kernel_rfl) rfl (by kernel_rfl) (Nat.le_of_ble_eq_true rfl) (fun i => rfl) (fun i => by first | rfl | exact (Bool.or_false _).trans (eSd_men _ _)) rfl (by decide) ?_
  refine gb ?_
  have hbp := hb.p
  have hbd := hb.d
  have hbm := hb.m
  have hf := findM_fit hbm w
  have h0 : withoutB b w = ⟨b.packs.filter fun m => decide (m.name ≠ w), b.dirs.filterMap (goD (findM b.packs w).1.ents)⟩ := rfl
  refine cl (find_ok b w hb) ?_
  refine gb ?_
  generalize findM b.packs w = fm at hf h0 ⊢
  obtain ⟨f, ok⟩ := fm
  dsimp only at hf h0 ⊢
  refine lp_nilc 7 25 [.nl, .nl] 0 201 40 hMa (gb ?_) (gb ?_) (gb ?_) ?_
  · trivial
  · trivial
  · trivial
  refine lp_nilc 7 25 [.ow 201 0, .nl] 1 202 54 hSh (gb ?_) (gb ?_) (gb ?_) ?_
  · trivial
  · trivial
  · trivial
  refine lp_hr [1, 2, 4, 5, 7, 19, 20] [2, 4, 5] (fun x : Nat × List Man => [(7, .p 7 0), (21, .n .i64 (x.1 : Int))]) (fun x : Nat × List Man => [(7, .cells 25 [.ow 201 x.2.length, .ow 202 0]), (201, rM x.2), (202, rSh [])]) (fun x : Nat × List Man => x.1 ≤ b.packs.length ∧ x.2.length ≤ x.1 ∧ b.packs.filter (fun m => decide (m.name ≠ w)) = x.2 ++ (b.packs.drop x.1).filter (fun m => decide (m.name ≠ w))) (fun x : Nat × List Man => b.packs.length - x.1) ((0, [])) id ⟨Nat.zero_le _, Nat.le_refl _, rfl⟩ (fits_of (gb ?_) (gb ?_) (gb ?_) (gb ?_) (gb ?_)) ?_
  · first | exact True.intro | exact ⟨rfl, rfl⟩ | exact ⟨rfl, rfl, rfl⟩ | rfl | exact rowc (List.map_id _) | trivial
  · first | exact True.intro | exact ⟨rfl, rfl⟩ | exact ⟨rfl, rfl, rfl⟩ | rfl | exact rowc (List.map_id _) | trivial
  · first | exact True.intro | exact ⟨rfl, rfl⟩ | exact ⟨rfl, rfl, rfl⟩ | rfl | exact rowc (List.map_id _) | trivial
  · first | exact True.intro | exact ⟨rfl, rfl⟩ | exact ⟨rfl, rfl, rfl⟩ | rfl | exact rowc (List.map_id _) | trivial
  · first | exact True.intro | exact ⟨rfl, rfl⟩ | exact ⟨rfl, rfl, rfl⟩ | rfl | exact rowc (List.map_id _) | trivial
  rintro ⟨i, out⟩ ⟨hi, ho, hr⟩
  dsimp only at hi ho hr ⊢
  try refine gb ?_
  refine br (fun e => ?_) (fun e => ?_)
  · rw [drop_at b.packs i dMn (by omega)] at hr
    have hm := hbm _ (getD_mem (x := dMn) (show i < b.packs.length by omega))
    try refine gb ?_
    generalize b.packs.getD i dMn = x at hr hm
    refine br (fun c => ?_) (fun c => ?_)
    · rw [List.filter_cons, if_pos (decide_eq_true c)] at hr
      try refine gb ?_
      refine cd (copied_ok x hm.2) ?_
      refine gb ?_
      refine .inr ?_
      refine ⟨(i + 1, out ++ [x]), fun i => if i = 201 then 34 else i, ⟨by dsimp only; omega, by simp; omega, by rw [hr]; simp⟩, (by dsimp only; omega), fits_of (gb ?_) (gb ?_) (gb ?_) (gb ?_) (gb ?_)⟩
      · first | exact True.intro | exact ⟨rfl, rfl⟩ | exact ⟨rfl, rfl, rfl⟩ | rfl | exact rowc (List.map_id _) | trivial
      · first | exact True.intro | exact ⟨rfl, rfl⟩ | exact ⟨rfl, rfl, rfl⟩ | rfl | exact rowc (List.map_id _) | trivial
      · first | exact True.intro | exact ⟨rfl, rfl⟩ | exact ⟨rfl, rfl, rfl⟩ | rfl | exact rowc (List.map_id _) | trivial
      · (first | trivial | exact ⟨rfl, rfl⟩ | exact ⟨rfl, rfl, rfl⟩ | simp)
      · first | exact True.intro | exact ⟨rfl, rfl⟩ | exact ⟨rfl, rfl, rfl⟩ | rfl | exact rowc (List.map_id _) | trivial
    · rw [List.filter_cons, if_neg (fun e => c (of_decide_eq_true e))] at hr
      try refine gb ?_
      refine ⟨(i + 1, out), id, ⟨by dsimp only; omega, by dsimp only; omega, hr⟩, (by dsimp only; omega), fits_of (gb ?_) (gb ?_) (gb ?_) (gb ?_) (gb ?_)⟩
      · first | exact True.intro | exact ⟨rfl, rfl⟩ | exact ⟨rfl, rfl, rfl⟩ | rfl | exact rowc (List.map_id _) | trivial
      · first | exact True.intro | exact ⟨rfl, rfl⟩ | exact ⟨rfl, rfl, rfl⟩ | rfl | exact rowc (List.map_id _) | trivial
      · first | exact True.intro | exact ⟨rfl, rfl⟩ | exact ⟨rfl, rfl, rfl⟩ | rfl | exact rowc (List.map_id _) | trivial
      · first | exact True.intro | exact ⟨rfl, rfl⟩ | exact ⟨rfl, rfl, rfl⟩ | rfl | exact rowc (List.map_id _) | trivial
      · first | exact True.intro | exact ⟨rfl, rfl⟩ | exact ⟨rfl, rfl, rfl⟩ | rfl | exact rowc (List.map_id _) | trivial
  · rw [List.drop_eq_nil_of_le (by omega), List.filter_nil, List.append_nil] at hr
    rw [hr] at h0
    clear hr
    try refine gb ?_
    refine lp_hr [4, 5, 7, 38, 39] [4, 5] (fun x : Nat × List Shr => [(7, .p 7 0), (40, .n .i64 (x.1 : Int))]) (fun x : Nat × List Shr => [(7, .cells 25 [.ow 201 out.length, .ow 202 x.2.length]), (201, rM out), (202, rSh x.2)]) (fun x : Nat × List Shr => x.1 ≤ b.dirs.length ∧ x.2.length ≤ x.1 ∧ b.dirs.filterMap (goD f.ents) = x.2 ++ (b.dirs.drop x.1).filterMap (goD f.ents)) (fun x : Nat × List Shr => b.dirs.length - x.1) ((0, [])) id ⟨Nat.zero_le _, Nat.le_refl _, rfl⟩ (fits_of (gb ?_) (gb ?_) (gb ?_) (gb ?_) (gb ?_)) ?_
    · first | exact True.intro | exact ⟨rfl, rfl⟩ | exact ⟨rfl, rfl, rfl⟩ | rfl | exact rowc (List.map_id _) | trivial
    · first | exact True.intro | exact ⟨rfl, rfl⟩ | exact ⟨rfl, rfl, rfl⟩ | rfl | exact rowc (List.map_id _) | trivial
    · first | exact True.intro | exact ⟨rfl, rfl⟩ | exact ⟨rfl, rfl, rfl⟩ | rfl | exact rowc (List.map_id _) | trivial
    · first | exact True.intro | exact ⟨rfl, rfl⟩ | exact ⟨rfl, rfl, rfl⟩ | rfl | exact rowc (List.map_id _) | trivial
    · first | exact True.intro | exact ⟨rfl, rfl⟩ | exact ⟨rfl, rfl, rfl⟩ | rfl | exact rowc (List.map_id _) | trivial
    rintro ⟨j, o2⟩ ⟨hj, ho2, hr⟩
    dsimp only at hj ho2 hr ⊢
    try refine gb ?_
    refine br (fun e => ?_) (fun e => ?_)
    · rw [drop_at b.dirs j dS (by omega), List.filterMap_cons] at hr
      have hd := hr0 _ (getD_mem (x := dS) (show j < b.dirs.length by omega))
      try refine gb ?_
      generalize b.dirs.getD j dS = d at hr hd ⊢
      refine cl (hasDir2_ok f d.path hf.1.el) ?_
      refine gb ?_
      rw [show goD f.ents d = if dirB2 f.ents d.path = true then (if d.refs - 1 ≤ 0 then none else some ⟨d.path, d.refs - 1, d.made⟩) else some d from rfl] at hr
      refine br (fun c => ?_) (fun c => ?_)
      · rw [if_pos c] at hr
        try refine gb ?_
        refine br (fun c2 => ?_) (fun c2 => ?_)
        · rw [if_pos c2] at hr
          try refine gb ?_
          refine ⟨(j + 1, o2), id, ⟨by dsimp only; omega, by dsimp only; omega, hr⟩, (by dsimp only; omega), fits_of (gb ?_) (gb ?_) (gb ?_) (gb ?_) (gb ?_)⟩
          · first | exact True.intro | exact ⟨rfl, rfl⟩ | exact ⟨rfl, rfl, rfl⟩ | rfl | exact rowc (List.map_id _) | trivial
          · first | exact True.intro | exact ⟨rfl, rfl⟩ | exact ⟨rfl, rfl, rfl⟩ | rfl | exact rowc (List.map_id _) | trivial
          · first | exact True.intro | exact ⟨rfl, rfl⟩ | exact ⟨rfl, rfl, rfl⟩ | rfl | exact rowc (List.map_id _) | trivial
          · first | exact True.intro | exact ⟨rfl, rfl⟩ | exact ⟨rfl, rfl, rfl⟩ | rfl | exact rowc (List.map_id _) | trivial
          · first | exact True.intro | exact ⟨rfl, rfl⟩ | exact ⟨rfl, rfl, rfl⟩ | rfl | exact rowc (List.map_id _) | trivial
        · rw [if_neg c2] at hr
          try refine gb ?_
          refine .inr ?_
          refine ⟨(j + 1, o2 ++ [⟨d.path, d.refs - 1, d.made⟩]), fun i => if i = 202 then 59 else i, ⟨by dsimp only; omega, by simp; omega, by rw [hr]; simp⟩, (by dsimp only; omega), fits_of (gb ?_) (gb ?_) (gb ?_) (gb ?_) (gb ?_)⟩
          · first | exact True.intro | exact ⟨rfl, rfl⟩ | exact ⟨rfl, rfl, rfl⟩ | rfl | exact rowc (List.map_id _) | trivial
          · first | exact True.intro | exact ⟨rfl, rfl⟩ | exact ⟨rfl, rfl, rfl⟩ | rfl | exact rowc (List.map_id _) | trivial
          · first | exact True.intro | exact ⟨rfl, rfl⟩ | exact ⟨rfl, rfl, rfl⟩ | rfl | exact rowc (List.map_id _) | trivial
          · (first | trivial | exact ⟨rfl, rfl⟩ | exact ⟨rfl, rfl, rfl⟩ | simp)
          · first | exact True.intro | exact ⟨rfl, rfl⟩ | exact ⟨rfl, rfl, rfl⟩ | rfl | exact rowc (List.map_id _) | trivial
      · rw [if_neg c] at hr
        try refine gb ?_
        refine .inr ?_
        refine ⟨(j + 1, o2 ++ [d]), fun i => if i = 202 then 59 else i, ⟨by dsimp only; omega, by simp; omega, by rw [hr]; simp⟩, (by dsimp only; omega), fits_of (gb ?_) (gb ?_) (gb ?_) (gb ?_) (gb ?_)⟩
        · first | exact True.intro | exact ⟨rfl, rfl⟩ | exact ⟨rfl, rfl, rfl⟩ | rfl | exact rowc (List.map_id _) | trivial
        · first | exact True.intro | exact ⟨rfl, rfl⟩ | exact ⟨rfl, rfl, rfl⟩ | rfl | exact rowc (List.map_id _) | trivial
        · first | exact True.intro | exact ⟨rfl, rfl⟩ | exact ⟨rfl, rfl, rfl⟩ | rfl | exact rowc (List.map_id _) | trivial
        · (first | trivial | exact ⟨rfl, rfl⟩ | exact ⟨rfl, rfl, rfl⟩ | simp)
        · first | exact True.intro | exact ⟨rfl, rfl⟩ | exact ⟨rfl, rfl, rfl⟩ | rfl | exact rowc (List.map_id _) | trivial
    · rw [List.drop_eq_nil_of_le (by omega), List.filterMap_nil, List.append_nil] at hr
      rw [hr] at h0
      try refine gb ?_
      rw [h0]
      exact le_refl _
end Go.Proofs.YtagjeabdcjcchaaGreatDoor.Ev
namespace Go.Proofs.YtagjeabdcjcchaaGreatDoor.Ev
open Go.RowKit
open Go.Proofs.YtagjeabdcjcchaaGreatDoor.Mem
set_option linter.unusedVariables false
set_option linter.unusedSimpArgs false
set_option maxRecDepth 100000
theorem agS {F : Nat → Prop} {W : World} {G : Gm} {a : List UInt8} {b : Int} {c : Bool} {vs : Array Value} (h : Rep F W G (.ag [.s a, .n .i64 b, .b c]) (.agg vs)) : vs = #[.string (tx a), .int .i64 b, .bool c] := by
  obtain ⟨us, h1, h2, h3⟩ := h.ag_inv
  obtain rfl := Value.agg.inj h1
  have h2 : vs.size = 3 := h2
  have e0 := (h3 0 (.s a) _ rfl (Array.getElem?_eq_getElem (by omega))).s_inv
  have e1 := (h3 1 (.n .i64 b) _ rfl (Array.getElem?_eq_getElem (by omega))).n_inv
  have e2 := (h3 2 (.b c) _ rfl (Array.getElem?_eq_getElem (by omega))).b_inv
  apply Array.ext
  · simpa using h2
  · intro i p q
    rcases i with _ | _ | _ | i
    · exact e0
    · exact e1
    · exact e2
    · omega
theorem eqaS (a : List UInt8) (b : Int) (c : Bool) : EqA Tryz.prog 54 [.s a, .n .i64 b, .b c] [.s a, .n .i64 b, .b c] true := by
  refine ⟨by kernel_rfl, fun F W G vs us h1 h2 => ?_⟩
  rw [agS h1, agS h2]
  have u3 := Tryz.underlying3
  have a3 := Tryz.isAgg3
  have z3 := Tryz.sizeOf3
  have u4 := Tryz.underlying4
  have a4 := Tryz.isAgg4
  have z4 := Tryz.sizeOf4
  have u9 := Tryz.underlying9
  have a9 := Tryz.isAgg9
  have z9 := Tryz.sizeOf9
  have hS : Tryz.prog.underlying 54 = some (.struct (Tryz.prog.fieldsOf 54)) := by kernel_rfl
  have hp : Tryz.prog.stoodInHeld 54 = false := by kernel_rfl
  rw [show (10000 : Nat) = 9999 + 1 from rfl, run_equalIn_agg W 9999 54 _ _ hS hp]
  simp only [Program.fieldsOf, Tryz.underlying54]
  go_simp
theorem osame_ok (b : Bas) (hb : b.Big) : Spec Tryz.prog LL 24 [eBas b, eBas b] (.b true) := by
  refine spec_of (C := ⟨Tryz.prog, LL, EE, []⟩) (rl := [.b true]) (rs := [.tmp 4]) CCx LLs Tryz.func24 rfl (by kernel_rfl) rfl (by kernel_rfl) (Nat.le_of_ble_eq_true rfl) (fun i => rfl) (fun i => by first | rfl | exact (Bool.or_false _).trans (eSd_men _ _)) rfl (by decide) ?_
  refine gb ?_
  have hbp := hb.p
  have hbd := hb.d
  repeat' (first | exact True.intro | (exfalso; omega) | (exfalso; contradiction) | refine br (fun h => ?_) (fun h => ?_) | refine gb ?_)
  refine lp_hd [2, 3] [2, 3] (fun i : Nat => [(5, .n .i64 (i : Int))]) (fun i : Nat => []) (fun i : Nat => i ≤ b.packs.length) (fun i : Nat => b.packs.length - i) (0) id (id) (Nat.zero_le _) (fits_of (gb ?_) (gb ?_) (gb ?_) (gb ?_) (gb ?_)) ?_
  · first | exact True.intro | exact ⟨rfl, rfl⟩ | exact ⟨rfl, rfl, rfl⟩ | rfl | exact rowc (List.map_id _) | trivial
  · first | exact True.intro | exact ⟨rfl, rfl⟩ | exact ⟨rfl, rfl, rfl⟩ | rfl | exact rowc (List.map_id _) | trivial
  · first | exact True.intro | exact ⟨rfl, rfl⟩ | exact ⟨rfl, rfl, rfl⟩ | rfl | exact rowc (List.map_id _) | trivial
  · first | exact True.intro | exact ⟨rfl, rfl⟩ | exact ⟨rfl, rfl, rfl⟩ | rfl | exact rowc (List.map_id _) | trivial
  · first | exact True.intro | exact ⟨rfl, rfl⟩ | exact ⟨rfl, rfl, rfl⟩ | rfl | exact rowc (List.map_id _) | trivial
  rintro i hi
  try refine gb ?_
  refine br (fun h => ?_) (fun h => ?_)
  · have hm := hb.m _ (getD_mem (x := dMn) (show i < b.packs.length by omega))
    try refine gb ?_
    generalize b.packs.getD i dMn = x at hm ⊢
    refine cd (same_ok x hm.1) ?_
    refine gb ?_
    refine ⟨i + 1, (by omega), (by omega), fits_of (gb ?_) (gb ?_) (gb ?_) (gb ?_) (gb ?_)⟩
    · first | exact True.intro | exact ⟨rfl, rfl⟩ | exact ⟨rfl, rfl, rfl⟩ | rfl | exact rowc (List.map_id _) | trivial
    · first | exact True.intro | exact ⟨rfl, rfl⟩ | exact ⟨rfl, rfl, rfl⟩ | rfl | exact rowc (List.map_id _) | trivial
    · first | exact True.intro | exact ⟨rfl, rfl⟩ | exact ⟨rfl, rfl, rfl⟩ | rfl | exact rowc (List.map_id _) | trivial
    · first | exact True.intro | exact ⟨rfl, rfl⟩ | exact ⟨rfl, rfl, rfl⟩ | rfl | exact rowc (List.map_id _) | trivial
    · first | exact True.intro | exact ⟨rfl, rfl⟩ | exact ⟨rfl, rfl, rfl⟩ | rfl | exact rowc (List.map_id _) | trivial
  · try refine gb ?_
    refine lp_hd [2, 3] [2, 3] (fun i : Nat => [(6, .n .i64 (i : Int))]) (fun i : Nat => []) (fun i : Nat => i ≤ b.dirs.length) (fun i : Nat => b.dirs.length - i) (0) id (id) (Nat.zero_le _) (fits_of (gb ?_) (gb ?_) (gb ?_) (gb ?_) (gb ?_)) ?_
    · first | exact True.intro | exact ⟨rfl, rfl⟩ | exact ⟨rfl, rfl, rfl⟩ | rfl | exact rowc (List.map_id _) | trivial
    · first | exact True.intro | exact ⟨rfl, rfl⟩ | exact ⟨rfl, rfl, rfl⟩ | rfl | exact rowc (List.map_id _) | trivial
    · first | exact True.intro | exact ⟨rfl, rfl⟩ | exact ⟨rfl, rfl, rfl⟩ | rfl | exact rowc (List.map_id _) | trivial
    · first | exact True.intro | exact ⟨rfl, rfl⟩ | exact ⟨rfl, rfl, rfl⟩ | rfl | exact rowc (List.map_id _) | trivial
    · first | exact True.intro | exact ⟨rfl, rfl⟩ | exact ⟨rfl, rfl, rfl⟩ | rfl | exact rowc (List.map_id _) | trivial
    rintro i hi
    try refine gb ?_
    refine br (fun h => ?_) (fun h => ?_)
    · try refine gb ?_
      refine ⟨true, eqaS _ _ _, gb ?_⟩
      refine ⟨i + 1, (by omega), (by omega), fits_of (gb ?_) (gb ?_) (gb ?_) (gb ?_) (gb ?_)⟩
      · first | exact True.intro | exact ⟨rfl, rfl⟩ | exact ⟨rfl, rfl, rfl⟩ | rfl | exact rowc (List.map_id _) | trivial
      · first | exact True.intro | exact ⟨rfl, rfl⟩ | exact ⟨rfl, rfl, rfl⟩ | rfl | exact rowc (List.map_id _) | trivial
      · first | exact True.intro | exact ⟨rfl, rfl⟩ | exact ⟨rfl, rfl, rfl⟩ | rfl | exact rowc (List.map_id _) | trivial
      · first | exact True.intro | exact ⟨rfl, rfl⟩ | exact ⟨rfl, rfl, rfl⟩ | rfl | exact rowc (List.map_id _) | trivial
      · first | exact True.intro | exact ⟨rfl, rfl⟩ | exact ⟨rfl, rfl, rfl⟩ | rfl | exact rowc (List.map_id _) | trivial
    · try refine gb ?_
      trivial
/-- What the laws leave out. -/
def entN : List Man → Nat
  | [] => 0
  | m :: r => m.ents.length + entN r
def greatB (b : Bas) : Bool := decide (600 < b.dirs.length + entN b.packs)
theorem great_ok (b : Bas) (hb : b.Big) : Spec Tryz.prog LL 9 [eBas b] (.b (greatB b)) := by
  refine spec_of (C := ⟨Tryz.prog, LL, EE, []⟩) (rl := [.b (greatB b)]) (rs := [.tmp 2]) CCx LLs Tryz.func9 rfl (by kernel_rfl) rfl (by kernel_rfl) (Nat.le_of_ble_eq_true rfl) (fun i => rfl) (fun i => by first | rfl | exact (Bool.or_false _).trans (eSd_men _ _)) rfl (by decide) ?_
  refine gb ?_
  have hbp := hb.p
  have hbd := hb.d
  refine lp_hd [1] [1] (fun x : Nat × Nat => [(3, .n .i64 (x.2 : Int)), (4, .n .i64 (x.1 : Int))]) (fun x : Nat × Nat => []) (fun x : Nat × Nat => x.1 ≤ b.packs.length ∧ (x.2 ≤ 600 ∨ x.2 ≤ 100000000000600) ∧ b.dirs.length + entN b.packs = x.2 + entN (b.packs.drop x.1)) (fun x : Nat × Nat => b.packs.length - x.1) ((0, b.dirs.length)) id (id) ⟨Nat.zero_le _, by dsimp only; omega, rfl⟩ (fits_of (gb ?_) (gb ?_) (gb ?_) (gb ?_) (gb ?_)) ?_
  · first | exact True.intro | exact ⟨rfl, rfl⟩ | exact ⟨rfl, rfl, rfl⟩ | rfl | exact rowc (List.map_id _) | trivial
  · first | exact True.intro | exact ⟨rfl, rfl⟩ | exact ⟨rfl, rfl, rfl⟩ | rfl | exact rowc (List.map_id _) | trivial
  · first | exact True.intro | exact ⟨rfl, rfl⟩ | exact ⟨rfl, rfl, rfl⟩ | rfl | exact rowc (List.map_id _) | trivial
  · first | exact True.intro | exact ⟨rfl, rfl⟩ | exact ⟨rfl, rfl, rfl⟩ | rfl | exact rowc (List.map_id _) | trivial
  · first | exact True.intro | exact ⟨rfl, rfl⟩ | exact ⟨rfl, rfl, rfl⟩ | rfl | exact rowc (List.map_id _) | trivial
  rintro ⟨i, n⟩ ⟨hi, hn, hr⟩
  dsimp only at hi hn hr ⊢
  try refine gb ?_
  refine br (fun e => ?_) (fun e => ?_)
  · rw [drop_at b.packs i dMn (by omega), entN] at hr
    have hm := (hb.m _ (getD_mem (x := dMn) (show i < b.packs.length by omega))).1.el
    try refine gb ?_
    refine br (fun c => ?_) (fun c => ?_)
    · try refine gb ?_
      unfold greatB
      have : decide (600 < b.dirs.length + entN b.packs) = true := decide_eq_true (by omega)
      rw [this]
    · try refine gb ?_
      refine ⟨(i + 1, n + (b.packs.getD i dMn).ents.length), ⟨by dsimp only; omega, by dsimp only; omega, by dsimp only; omega⟩, (by dsimp only; omega), fits_of (gb ?_) (gb ?_) (gb ?_) (gb ?_) (gb ?_)⟩
      · first | exact True.intro | exact ⟨rfl, rfl⟩ | exact ⟨rfl, rfl, rfl⟩ | rfl | exact rowc (List.map_id _) | trivial
      · first | exact True.intro | exact ⟨rfl, rfl⟩ | exact ⟨rfl, rfl, rfl⟩ | rfl | exact rowc (List.map_id _) | trivial
      · first | exact True.intro | exact ⟨rfl, rfl⟩ | exact ⟨rfl, rfl, rfl⟩ | rfl | exact rowc (List.map_id _) | trivial
      · first | exact True.intro | exact ⟨rfl, rfl⟩ | exact ⟨rfl, rfl, rfl⟩ | rfl | exact rowc (List.map_id _) | trivial
      · first | exact True.intro | exact ⟨rfl, rfl⟩ | exact ⟨rfl, rfl, rfl⟩ | rfl | exact rowc (List.map_id _) | trivial
  · rw [List.drop_eq_nil_of_le (by omega), entN] at hr
    try refine gb ?_
    unfold greatB
    rw [hr, Nat.add_zero]
    simp
    exact ⟨fun h => by omega, fun h => by omega⟩
end Go.Proofs.YtagjeabdcjcchaaGreatDoor.Ev
namespace Go.Proofs.YtagjeabdcjcchaaGreatDoor.Ev
open Go.RowKit
open Go.Proofs.YtagjeabdcjcchaaGreatDoor.Mem
set_option linter.unusedVariables false
set_option linter.unusedSimpArgs false
set_option maxRecDepth 100000
theorem t0_eq : textB b0 = [98, 97, 115, 101, 32, 49, 10, 112, 97, 99, 107, 32, 52, 57, 10, 104, 111, 108, 100, 97, 108, 108, 32, 49, 10, 110, 97, 109, 101, 32, 97, 10, 118, 101, 114, 115, 105, 111, 110].append [32, 49, 10, 100, 105, 114, 32, 48, 55, 53, 53, 32, 120, 10, 108, 105, 110, 107, 32, 120, 47, 121, 32, 122, 10, 100, 105, 114, 32, 49, 32, 49, 32, 120, 10, 101, 110, 100, 10] := by decide +kernel
theorem awake_ok  : Spec Tryz.prog LL 10 [] (.b true) := by
  refine spec_of (C := ⟨Tryz.prog, LL, EE, []⟩) (rl := [.b true]) (rs := [.tmp 0]) CCx LLs Tryz.func10 rfl (by kernel_rfl) rfl (by kernel_rfl) (Nat.le_of_ble_eq_true rfl) (fun i => rfl) (fun i => by first | rfl | exact (Bool.or_false _).trans (eSd_men _ _)) rfl (by decide) ?_
  refine gb ?_
  refine .inr ?_
  try refine gb ?_
  refine .inr ?_
  try refine gb ?_
  refine cln add0 (gb ?_) ?_
  · exact ⟨.inl rfl, .inl rfl, .inr ⟨rfl, _, _, _, _, rfl⟩, .inr ⟨rfl, _, _, _, _, rfl⟩, .inl rfl, trivial⟩
  refine gb ?_
  refine cl (oprint_ok b0 b0_big) ?_
  refine gb ?_
  rw [show printB b0 = (textB b0, 0) from if_pos b0_ok]
  try refine gb ?_
  refine cl (oparse_ok (textB b0) (by decide +kernel)) ?_
  refine gb ?_
  rw [parse_text b0_ok]
  try refine gb ?_
  refine cl (owner_ok b0 [120, 47, 121] b0_big) ?_
  refine gb ?_
  rw [show ownM b0.packs [120, 47, 121] = ([97], true) by decide +kernel]
  try refine gb ?_
  refine br (fun c => ?_) (fun c => ?_)
  · try refine gb ?_
    have hw : withoutB b0 [97] = ⟨[], []⟩ := by
      show Bas.mk _ _ = Bas.mk _ _
      exact congr (congrArg Bas.mk (by rfl)) (by rfl)
    refine br (fun c2 => ?_) (fun c2 => ?_)
    · try refine gb ?_
      refine cl (owithout_ok b0 [97] b0_big (fun d hd => by simp [b0] at hd; subst hd; decide)) ?_
      refine gb ?_
      rw [hw]
      try refine gb ?_
      rfl
    · exact absurd rfl c2
  · exact absurd t0_eq c
end Go.Proofs.YtagjeabdcjcchaaGreatDoor.Ev
