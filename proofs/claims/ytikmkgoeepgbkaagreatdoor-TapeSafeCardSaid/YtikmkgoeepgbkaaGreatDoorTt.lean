/- The laws of archives. -/
import Derived.Test.YtikmkgoeepgbkaaGreatDoorTr
set_option linter.all false
namespace Go.Proofs.YtikmkgoeepgbkaaGreatDoor.Ev
open Go.RowKit
open Go.Proofs.YtikmkgoeepgbkaaGreatDoor.Mem
set_option linter.unusedVariables false
set_option linter.unusedSimpArgs false
set_option maxRecDepth 100000
theorem agM8 {F : Nat → Prop} {W : World} {G : Gm} {vs : Array Value} {a g h : List UInt8} {b c d e f : Int} (H : Rep F W G (.ag [.s a, .n .i64 b, .n .i64 c, .n .i64 d, .n .i64 e, .n .i64 f, .s g, .s h]) (.agg vs)) : vs = #[.string (tx a), .int .i64 b, .int .i64 c, .int .i64 d, .int .i64 e, .int .i64 f, .string (tx g), .string (tx h)] := by
  obtain ⟨us, h1, h2, h3⟩ := H.ag_inv
  cases h1
  have hz : vs.size = 8 := h2
  have e0 := (h3 0 (.s a) _ rfl (Array.getElem?_eq_getElem (by omega))).s_inv
  have e1 := (h3 1 (.n .i64 b) _ rfl (Array.getElem?_eq_getElem (by omega))).n_inv
  have e2 := (h3 2 (.n .i64 c) _ rfl (Array.getElem?_eq_getElem (by omega))).n_inv
  have e3 := (h3 3 (.n .i64 d) _ rfl (Array.getElem?_eq_getElem (by omega))).n_inv
  have e4 := (h3 4 (.n .i64 e) _ rfl (Array.getElem?_eq_getElem (by omega))).n_inv
  have e5 := (h3 5 (.n .i64 f) _ rfl (Array.getElem?_eq_getElem (by omega))).n_inv
  have e6 := (h3 6 (.s g) _ rfl (Array.getElem?_eq_getElem (by omega))).s_inv
  have e7 := (h3 7 (.s h) _ rfl (Array.getElem?_eq_getElem (by omega))).s_inv
  apply Array.ext
  · simpa using h2
  · intro i p q
    rcases i with _ | _ | _ | _ | _ | _ | _ | _ | i
    · exact e0
    · exact e1
    · exact e2
    · exact e3
    · exact e4
    · exact e5
    · exact e6
    · exact e7
    · omega
theorem eqaB (a g h : List UInt8) (b c d e f : Int) : EqA Tryz.prog 28 [.s a, .n .i64 b, .n .i64 c, .n .i64 d, .n .i64 e, .n .i64 f, .s g, .s h] [.s a, .n .i64 b, .n .i64 c, .n .i64 d, .n .i64 e, .n .i64 f, .s g, .s h] true := by
  refine ⟨by kernel_rfl, fun F W G vs us h1 h2 => ?_⟩
  rw [agM8 h1, agM8 h2]
  have u3 := Tryz.underlying3
  have a3 := Tryz.isAgg3
  have z3 := Tryz.sizeOf3
  have u9 := Tryz.underlying9
  have a9 := Tryz.isAgg9
  have z9 := Tryz.sizeOf9
  have hS : Tryz.prog.underlying 28 = some (.struct (Tryz.prog.fieldsOf 28)) := by kernel_rfl
  have hp : Tryz.prog.stoodInHeld 28 = false := by kernel_rfl
  rw [show (10000 : Nat) = 9999 + 1 from rfl, run_equalIn_agg W 9999 28 _ _ hS hp]
  simp only [Program.fieldsOf, Tryz.underlying28]
  go_simp
theorem tsame_ok (l : List Mbr) (hl : l.length ≤ 100000000000000) : Spec Tryz.prog LL 17 [.sl 8 Mbr dMb l eMbr, .sl 8 Mbr dMb l eMbr] (.b true) := by
  refine spec_of (C := ⟨Tryz.prog, LL, EE, []⟩) (rl := [.b true]) (rs := [.tmp 4]) CCx LLs Tryz.func17 rfl (by kernel_rfl) rfl (by kernel_rfl) (Nat.le_of_ble_eq_true rfl) (fun i => rfl) (fun i => by first | rfl | exact (Bool.or_false _).trans (eSd_men _ _)) rfl (by decide) ?_
  refine gr ?_
  refine lp_hd [0, 1] [] (fun i : Nat => [(5, .n .i64 (i : Int))]) (fun i : Nat => []) (fun i : Nat => i ≤ l.length) (fun i : Nat => l.length - i) (0) id (id) (Nat.zero_le _) (fits_of (gr ?_) (gr ?_) (gr ?_) (gr ?_) (gr ?_)) ?_
  · first | exact True.intro | exact ⟨rfl, rfl⟩ | exact ⟨rfl, rfl, rfl⟩ | rfl | exact rowc (List.map_id _) | trivial
  · first | exact True.intro | exact ⟨rfl, rfl⟩ | exact ⟨rfl, rfl, rfl⟩ | rfl | exact rowc (List.map_id _) | trivial
  · first | exact True.intro | exact ⟨rfl, rfl⟩ | exact ⟨rfl, rfl, rfl⟩ | rfl | exact rowc (List.map_id _) | trivial
  · first | exact True.intro | exact ⟨rfl, rfl⟩ | exact ⟨rfl, rfl, rfl⟩ | rfl | exact rowc (List.map_id _) | trivial
  · first | exact True.intro | exact ⟨rfl, rfl⟩ | exact ⟨rfl, rfl, rfl⟩ | rfl | exact rowc (List.map_id _) | trivial
  rintro i hi
  try refine gr ?_
  refine br (fun h => ?_) (fun h => ?_)
  · try refine gr ?_
    refine ⟨true, eqaB _ _ _ _ _ _ _ _, gr ?_⟩
    refine ⟨i + 1, (by omega), (by omega), fits_of (gr ?_) (gr ?_) (gr ?_) (gr ?_) (gr ?_)⟩
    · first | exact True.intro | exact ⟨rfl, rfl⟩ | exact ⟨rfl, rfl, rfl⟩ | rfl | exact rowc (List.map_id _) | trivial
    · first | exact True.intro | exact ⟨rfl, rfl⟩ | exact ⟨rfl, rfl, rfl⟩ | rfl | exact rowc (List.map_id _) | trivial
    · first | exact True.intro | exact ⟨rfl, rfl⟩ | exact ⟨rfl, rfl, rfl⟩ | rfl | exact rowc (List.map_id _) | trivial
    · first | exact True.intro | exact ⟨rfl, rfl⟩ | exact ⟨rfl, rfl, rfl⟩ | rfl | exact rowc (List.map_id _) | trivial
    · first | exact True.intro | exact ⟨rfl, rfl⟩ | exact ⟨rfl, rfl, rfl⟩ | rfl | exact rowc (List.map_id _) | trivial
  · try refine gr ?_
    trivial
def greF : List Mbr → Nat → Nat → Bool
  | [], _, _ => false
  | m :: r, i, n => if 60000 - n < m.data.length ∨ 60000 < m.path.length ∨ 60000 < m.target.length ∨ 200 < i then true else greF r (i + 1) (n + m.data.length)
theorem tgreat_ok (l : List Mbr) (hl : l.length ≤ 100000000000000) : Spec Tryz.prog LL 9 [.sl 8 Mbr dMb l eMbr] (.b (greF l 0 0)) := by
  refine spec_of (C := ⟨Tryz.prog, LL, EE, []⟩) (rl := [.b (greF l 0 0)]) (rs := [.tmp 2]) CCx LLs Tryz.func9 rfl (by kernel_rfl) rfl (by kernel_rfl) (Nat.le_of_ble_eq_true rfl) (fun i => rfl) (fun i => by first | rfl | exact (Bool.or_false _).trans (eSd_men _ _)) rfl (by decide) ?_
  refine gr ?_
  refine lp_hd [0] [] (fun x : Nat × Nat => [(3, .n .i64 (x.2 : Int)), (4, .n .i64 (x.1 : Int))]) (fun x : Nat × Nat => []) (fun x : Nat × Nat => x.1 ≤ l.length ∧ greF l 0 0 = greF (l.drop x.1) x.1 x.2 ∧ x.2 ≤ 60000) (fun x : Nat × Nat => l.length - x.1) ((0, 0)) id (id) ⟨Nat.zero_le _, rfl, by decide⟩ (fits_of (gr ?_) (gr ?_) (gr ?_) (gr ?_) (gr ?_)) ?_
  · first | exact True.intro | exact ⟨rfl, rfl⟩ | exact ⟨rfl, rfl, rfl⟩ | rfl | exact rowc (List.map_id _) | trivial
  · first | exact True.intro | exact ⟨rfl, rfl⟩ | exact ⟨rfl, rfl, rfl⟩ | rfl | exact rowc (List.map_id _) | trivial
  · first | exact True.intro | exact ⟨rfl, rfl⟩ | exact ⟨rfl, rfl, rfl⟩ | rfl | exact rowc (List.map_id _) | trivial
  · first | exact True.intro | exact ⟨rfl, rfl⟩ | exact ⟨rfl, rfl, rfl⟩ | rfl | exact rowc (List.map_id _) | trivial
  · first | exact True.intro | exact ⟨rfl, rfl⟩ | exact ⟨rfl, rfl, rfl⟩ | rfl | exact rowc (List.map_id _) | trivial
  rintro ⟨i, n⟩ ⟨hi, hr, hn⟩
  dsimp only at hi hr hn ⊢
  try refine gr ?_
  refine br (fun e => ?_) (fun e => ?_)
  · rw [drop_at l i dMb (by omega), greF] at hr
    try refine gr ?_
    refine br (fun a => ?_) (fun a => ?_)
    · try refine gr ?_
      refine br (fun b => ?_) (fun b => ?_)
      · try refine gr ?_
        refine br (fun c => ?_) (fun c => ?_)
        · try refine gr ?_
          refine br (fun d => ?_) (fun d => ?_)
          · rw [if_pos (by omega)] at hr
            try refine gr ?_
            rw [hr]
          · rw [if_neg (by omega)] at hr
            try refine gr ?_
            refine ⟨(i + 1, n + (l.getD i dMb).data.length), ⟨by dsimp only; omega, hr, by dsimp only; omega⟩, (by dsimp only; omega), fits_of (gr ?_) (gr ?_) (gr ?_) (gr ?_) (gr ?_)⟩
            · first | exact True.intro | exact ⟨rfl, rfl⟩ | exact ⟨rfl, rfl, rfl⟩ | rfl | exact rowc (List.map_id _) | trivial
            · first | exact True.intro | exact ⟨rfl, rfl⟩ | exact ⟨rfl, rfl, rfl⟩ | rfl | exact rowc (List.map_id _) | trivial
            · first | exact True.intro | exact ⟨rfl, rfl⟩ | exact ⟨rfl, rfl, rfl⟩ | rfl | exact rowc (List.map_id _) | trivial
            · first | exact True.intro | exact ⟨rfl, rfl⟩ | exact ⟨rfl, rfl, rfl⟩ | rfl | exact rowc (List.map_id _) | trivial
            · first | exact True.intro | exact ⟨rfl, rfl⟩ | exact ⟨rfl, rfl, rfl⟩ | rfl | exact rowc (List.map_id _) | trivial
        · rw [if_pos (by omega)] at hr
          try refine gr ?_
          rw [hr]
      · rw [if_pos (by omega)] at hr
        try refine gr ?_
        rw [hr]
    · rw [if_pos (by omega)] at hr
      try refine gr ?_
      rw [hr]
  · rw [List.drop_eq_nil_of_le (by omega), greF] at hr
    try refine gr ?_
    rw [hr]
theorem wrM_fit {l : List Mbr} (h : (wrM l).2 = 0) (ht : ∀ m ∈ l, m.time < 9223372036854775808) : l.length ≤ 64 ∧ (∀ m ∈ l, Wr m) ∧ (wrM l).1 = flatM l ++ List.replicate 1024 0 ∧ (flatM l).length ≤ 1048576 := by
  unfold wrM at h ⊢
  by_cases e : 64 < l.length
  · rw [if_pos e] at h; simp at h
  rw [if_neg e] at h ⊢
  obtain ⟨h1, h2, h3⟩ := wrF_fit (by simp) h
  exact ⟨by omega, fun m hm => ⟨(h1 m hm).1, (h1 m hm).2, ht m hm⟩, by rw [h2]; rfl, by simpa [flatM] using h3⟩
theorem wrM_ok {l : List Mbr} (hl : l.length ≤ 64) (hw : ∀ m ∈ l, Wr m) (hf : (flatM l).length ≤ 1048576) : wrM l = (flatM l ++ List.replicate 1024 0, 0) := by
  unfold wrM
  rw [if_neg (by omega), wrF_ok (fun m hm => ⟨(hw m hm).chk, (hw m hm).mem⟩) (by simpa [flatM] using hf)]
  rfl
def mAwk : Mbr := ⟨[97], 1, 420, 0, 0, 0, [], [104, 105]⟩
theorem wAwk : Wr mAwk := ⟨by decide +kernel, by decide +kernel, by decide⟩
theorem lAwk : (flatM [mAwk]).length = 1024 := by decide +kernel
theorem tawake_ok  : Spec Tryz.prog LL 10 [] (.b true) := by
  refine spec_of (C := ⟨Tryz.prog, LL, EE, []⟩) (rl := [.b true]) (rs := [.tmp 0]) CCx LLs Tryz.func10 rfl (by kernel_rfl) rfl (by kernel_rfl) (Nat.le_of_ble_eq_true rfl) (fun i => rfl) (fun i => by first | rfl | exact (Bool.or_false _).trans (eSd_men _ _)) rfl (by decide) ?_
  refine gr ?_
  have hw : ∀ m ∈ [mAwk], Wr m := fun m hm => by rw [List.mem_singleton] at hm; rw [hm]; exact wAwk
  have h1 := wrM_ok (by decide) hw (by rw [lAwk]; decide)
  have h2 := read_written (l := [mAwk]) (e := 0) hw (by decide) (by rw [lAwk]; decide)
  have h3 : (flatM [mAwk] ++ List.replicate 1024 (0 : UInt8)).length = 2048 := by rw [List.length_append, lAwk]; simp
  rw [Nat.add_zero] at h2
  generalize flatM [mAwk] ++ List.replicate 1024 (0 : UInt8) = T at h1 h2 h3
  refine .inr ?_
  try refine gr ?_
  refine cl (twrite_ok [mAwk] (fun m hm => by rw [List.mem_singleton] at hm; rw [hm]; exact ⟨⟨by decide, by decide, by decide⟩, by decide⟩)) ?_
  refine gr ?_
  rw [h1]
  try refine gr ?_
  refine cl (tread_ok T) ?_
  refine gr ?_
  rw [h2]
  try refine gr ?_
  repeat' (first | exact True.intro | ((exfalso; omega)) | ((exfalso; contradiction)) | ((show _ = _; simp_all [mAwk]; done)) | refine br (fun h => ?_) (fun h => ?_) | refine gr ?_)
theorem flat512 : ∀ (l : List Mbr), (∀ m ∈ l, Wr m) → (flatM l).length % 512 = 0
  | [], _ => by simp [flatM]
  | m :: l, h => by
    rw [flat_cons, List.length_append, Nat.add_mod, flat512 l fun x hx => h x (by simp [hx])]
    obtain ⟨h1, h2, h3⟩ := (h m (by simp)).parts
    have key : ∀ (hd : Hdr) (d : List UInt8), (blksM hd d).2 = 0 → (blksM hd d).1.length % 512 = 0 := fun hd d he => by
      unfold blksM at he ⊢
      by_cases e : ¬ (encM (hd.sized d.length)).2 = 0
      · rw [if_pos e] at he; exact absurd he e
      · rw [if_neg e]
        obtain ⟨_, _, _, _, _, _, _, _, hl⟩ := enc_form (Decidable.not_not.1 e)
        simp [hl, fillN]
        omega
    have k1 : (moreM m).1.length % 512 = 0 := by
      unfold moreM at h1 ⊢
      split at h1
      · rename_i e; rw [if_pos e]; rfl
      · rename_i e
        rw [if_neg e]
        split at h1
        · rename_i e2; exact absurd h1 e2
        · rename_i e2
          rw [if_neg e2]
          exact key _ _ h1
    have k2 := key _ _ h2
    rw [h3, List.length_append]
    omega
theorem wrF_err : ∀ (l : List Mbr) (b : List UInt8), ¬ (wrF l b).2 = 0 → (wrF l b).1 = []
  | [], b, h => by simp [wrF] at h
  | m :: r, b, h => by
    unfold wrF at h ⊢
    by_cases a : ¬ tchkM m = 0
    · rw [if_pos a]
    rw [if_neg a] at h ⊢
    by_cases c : ¬ (memM m).2 = 0
    · rw [if_pos c]
    rw [if_neg c] at h ⊢
    by_cases d : 1048576 < (b ++ (memM m).1).length
    · rw [if_pos d]
    rw [if_neg d] at h ⊢
    exact wrF_err r _ h
theorem wrM_err (l : List Mbr) (h : ¬ (wrM l).2 = 0) : (wrM l).1 = [] := by
  unfold wrM at h ⊢
  split at h
  · rename_i e; rw [if_pos e]
  · rename_i e; rw [if_neg e]; exact wrF_err l _ h
def Mbr.Arg (m : Mbr) : Prop := m.Big ∧ m.time < 9223372036854775808
theorem lback_ok (l : List Mbr) (hl : l.length ≤ 100000000000000) (ha : ∀ m ∈ l, m.Arg) : Spec Tryz.prog LL 5 [.sl 8 Mbr dMb l eMbr] (.b true) := by
  refine spec_of (C := ⟨Tryz.prog, LL, EE, []⟩) (rl := [.b true]) (rs := [.tmp 2]) CCx LLs Tryz.func5 rfl (by kernel_rfl) rfl (by kernel_rfl) (Nat.le_of_ble_eq_true rfl) (fun i => rfl) (fun i => by first | rfl | exact (Bool.or_false _).trans (eSd_men _ _)) rfl (by decide) ?_
  refine gr ?_
  refine cl (tgreat_ok l hl) ?_
  refine gr ?_
  refine br (fun g => ?_) (fun g => ?_)
  · try refine gr ?_
    refine cl (tawake_ok) ?_
    refine gr ?_
    trivial
  · try refine gr ?_
    refine cl (twrite_ok l ha) ?_
    refine gr ?_
    have hf := fun e => wrM_fit (l := l) e fun m hm => (ha m hm).2
    have hne := wrM_err l
    generalize wrM l = w at hf hne ⊢
    obtain ⟨T, e⟩ := w
    dsimp only at hf hne ⊢
    refine br (fun a => ?_) (fun a => ?_)
    · have := hne a
      subst this
      try refine gr ?_
      refine cl (tawake_ok) ?_
      refine gr ?_
      trivial
    · obtain ⟨f1, f2, rfl, f4⟩ := hf (by omega)
      try refine gr ?_
      refine cl (tread_ok (flatM l ++ List.replicate 1024 0)) ?_
      refine gr ?_
      have hrw := read_written (l := l) (e := 0) f2 f1 (by omega)
      have h512 := flat512 l f2
      have hln : (flatM l ++ List.replicate 1024 (0 : UInt8)).length = (flatM l).length + 1024 := by simp
      rw [Nat.add_zero] at hrw
      rw [hrw]
      try refine gr ?_
      refine cl (tawake_ok) ?_
      refine gr ?_
      refine cl (tsame_ok l hl) ?_
      refine gr ?_
      rw [tmo]
      omega
end Go.Proofs.YtikmkgoeepgbkaaGreatDoor.Ev
