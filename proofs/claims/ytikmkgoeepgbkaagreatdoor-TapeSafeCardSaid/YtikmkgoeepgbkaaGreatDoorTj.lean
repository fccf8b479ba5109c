/- The document's paths. -/
import Derived.Test.YtikmkgoeepgbkaaGreatDoorJs
import Derived.Test.YtikmkgoeepgbkaaGreatDoorTt
set_option linter.all false
namespace Go.Proofs.YtikmkgoeepgbkaaGreatDoor.Ev
open Go.RowKit
open Go.Proofs.YtikmkgoeepgbkaaGreatDoor.Mem
set_option linter.unusedVariables false
set_option linter.unusedSimpArgs false
set_option maxRecDepth 100000
/-- How many bytes a rune has. -/
def sizeN (r : Int) : Int := Pz.rsize_m r
theorem size_ok (r : Int) : Spec Tryz.prog LL 36 [.n .i32 r] (.n .i64 (sizeN r)) := by
  refine Spec.of (fn := Tryz.f36) Tryz.func36 (by kernel_rfl) (by kernel_rfl) (fun _ => rfl) fun S W xs hL hz hx _ => ?_
  have e : xs = #[.int .i32 r] := by
    have h2 : xs.size = 1 := hz
    have e0 := (hx 0 (.n .i32 r) _ rfl (Array.getElem?_eq_getElem (by omega))).n_inv
    apply Array.ext
    · simpa using h2
    · intro i p q
      obtain rfl : i = 0 := by simp at q; omega
      exact e0
  rw [e]
  exact (Pz.rsize_any r W).mono fun e W' h => ⟨_, h.1, h.2, .n _ _ _⟩
theorem size_ff : sizeN 65533 = 3 := by decide
def rsgn (r : Nat) (n : Int) : Bool := decide (32 < r) && decide (r ≠ 127) && decide (r ≠ 47) && !(decide (r = 65533) && decide (n ≠ 3)) && !(decide (128 ≤ r) && decide (r < 160))
theorem rsgn_iff {r : Nat} {n : Int} : rsgn r n = true ↔ (32 < r ∧ r ≠ 127 ∧ r ≠ 47 ∧ (r = 65533 → n = 3) ∧ ¬ (128 ≤ r ∧ r < 160)) := by
  simp only [rsgn, Bool.and_eq_true, Bool.not_eq_true', Bool.and_eq_false_iff, decide_eq_true_eq, decide_eq_false_iff_not]
  omega
theorem rsign_ok (r : Nat) (n : Int) : Spec Tryz.prog LL 37 [.n .i32 (r : Int), .n .i64 n] (.b (rsgn r n)) := by
  refine spec_of (C := ⟨Tryz.prog, LL, EE, []⟩) (rl := [.b (rsgn r n)]) (rs := [.tmp 4]) CCx LLs Tryz.func37 rfl (by kernel_rfl) rfl (by kernel_rfl) (Nat.le_of_ble_eq_true rfl) (fun i => rfl) (fun i => by first | rfl | exact (Bool.or_false _).trans (eSd_men _ _)) rfl (by decide) ?_
  refine gr ?_
  repeat' (first | exact True.intro | (exact (rsgn_iff.2 (by omega)).symm) | (exact (Bool.eq_false_iff.2 fun e => by have := rsgn_iff.1 e; omega).symm) | (rw [Bool.eq_iff_iff, rsgn_iff]; simp only [Bool.not_eq_true', decide_eq_false_iff_not, decide_eq_true_eq]; omega) | refine br (fun h => ?_) (fun h => ?_) | refine gr ?_)
theorem dec_gen {s : List UInt8} {p : Nat} (h : p < s.length) : (dec s p = (65533, 1) ∧ Lib.validD (s.drop p) = false ∧ ¬ (p + 3 ≤ s.length ∧ (s.take (p + 3)).drop p = [239, 191, 189])) ∨
    (Lib.validD (s.drop p) = Lib.validD (s.drop (p + (dec s p).2)) ∧ ((dec s p).1 = 65533 → p + 3 ≤ s.length ∧ (s.take (p + 3)).drop p = [239, 191, 189] ∧ (dec s p).2 = 3) ∧ (¬ (dec s p).1 = 65533 → sizeN ((dec s p).1 : Int) = ((dec s p).2 : Nat))) := by
  have hv : Lib.validD (s.drop p) = if dec s p = (65533, 1) then false else Lib.validD (s.drop (p + (dec s p).2)) := by
    have := valid_at s p h
    rw [nxp_lt h] at this
    exact this
  by_cases e : dec s p = (65533, 1)
  · rw [if_pos e] at hv
    refine .inl ⟨e, hv, fun ⟨h1, h2⟩ => ?_⟩
    obtain ⟨c0, c1, c2⟩ := (Pz.three_iff s p h1).1 h2
    have h3 : dec s p = (65533, 3) := Pz.dec_fffd s p h1 c0 c1 c2
    rw [e] at h3
    cases h3
  · rw [if_neg e] at hv
    refine .inr ⟨hv, fun h3 => ?_, fun h3 => Pz.dec_w s p h3⟩
    rcases Pz.dec_ff s p h3 with h4 | ⟨h4, h5, h6⟩
    · exact absurd (Prod.ext h3 h4) e
    · exact ⟨h5, (Pz.three_iff s p h5).2 h6, h4⟩
theorem sp_no {c : UInt8} : ∀ {s : List UInt8}, c ∉ s → sp c s = [s]
  | [], _ => rfl
  | x :: r, h => by
    have h1 : ¬ x = c := fun e => h (by simp [e])
    have h2 := sp_no (c := c) (s := r) fun e => h (by simp [e])
    unfold sp
    rw [if_neg h1, h2]
    rfl
theorem sp_app {c : UInt8} : ∀ {a b : List UInt8}, c ∉ a → sp c (a ++ c :: b) = a :: sp c b
  | [], b, _ => by simp [sp]
  | x :: r, b, h => by
    have h1 : ¬ x = c := fun e => h (by simp [e])
    have h2 := sp_app (c := c) (a := r) (b := b) fun e => h (by simp [e])
    rw [List.cons_append]
    conv => lhs; unfold sp
    rw [if_neg h1, h2]
    rfl
theorem mid_at (s : List UInt8) (a i : Nat) (h : a ≤ i) (hi : i < s.length) : (s.drop a).take (i + 1 - a) = (s.drop a).take (i - a) ++ [s.getD i 0] := by
  have := take_at (s.drop a) (i - a) 0 (by rw [List.length_drop]; omega)
  rw [show i + 1 - a = i - a + 1 by omega, this]
  congr 2
  rw [List.getD_eq_getElem?_getD, List.getD_eq_getElem?_getD, List.getElem?_drop, show a + (i - a) = i by omega]
theorem drop_cut (s : List UInt8) (a i : Nat) (h : a ≤ i) (hi : i < s.length) : s.drop a = (s.drop a).take (i - a) ++ s.getD i 0 :: s.drop (i + 1) := by
  rw [← drop_at s i 0 hi]
  have : s.drop i = (s.drop a).drop (i - a) := by rw [List.drop_drop]; congr 1; omega
  rw [this, List.take_append_drop]
set_option maxHeartbeats 4000000 in
theorem rsplit_ok (s : List UInt8) (hs : s.length ≤ 1000000) : Spec Tryz.prog LL 34 [.s s] (.sl 1 (List UInt8) [] (sp 47 s) .s) := by
  refine spec_of (C := ⟨Tryz.prog, LL, EE, []⟩) (rl := [.sl 1 (List UInt8) [] (sp 47 s) .s]) (rs := [.tmp 2]) CCx LLs Tryz.func34 rfl (by kernel_rfl) rfl (by kernel_rfl) (Nat.le_of_ble_eq_true rfl) (fun i => rfl) (fun i => by first | rfl | exact (Bool.or_false _).trans (eSd_men _ _)) rfl (by decide) ?_
  refine gr ?_
  refine lp_nil 3 9 hS (gr ?_) (gr ?_) ?_
  · trivial
  · trivial
  refine lp_hr [0] [] (fun x : Nat × Nat × List (List UInt8) => [(3, .ow 3 x.2.2.length), (4, .n .i64 (x.2.1 : Int)), (5, .n .i64 (x.1 : Int))]) (fun x : Nat × Nat × List (List UInt8) => [(3, rS x.2.2)]) (fun x : Nat × Nat × List (List UInt8) => x.1 ≤ s.length + 1 ∧ x.2.2.length ≤ x.1 ∧ (x.1 ≤ s.length → x.2.1 ≤ x.1 ∧ x.2.2 ++ sp 47 (s.drop x.2.1) = sp 47 s ∧ 47 ∉ (s.drop x.2.1).take (x.1 - x.2.1)) ∧ (x.1 = s.length + 1 → x.2.2 = sp 47 s)) (fun x : Nat × Nat × List (List UInt8) => s.length + 1 - x.1) ((0, 0, [])) id ⟨Nat.zero_le _, Nat.le_refl _, fun _ => ⟨Nat.le_refl _, by simp, by simp⟩, fun h => by simp at h⟩ (fits_of (gr ?_) (gr ?_) (gr ?_) (gr ?_) (gr ?_)) ?_
  · first | exact True.intro | exact ⟨rfl, rfl⟩ | exact ⟨rfl, rfl, rfl⟩ | rfl | exact rowc (List.map_id _) | trivial
  · first | exact True.intro | exact ⟨rfl, rfl⟩ | exact ⟨rfl, rfl, rfl⟩ | rfl | exact rowc (List.map_id _) | trivial
  · first | exact True.intro | exact ⟨rfl, rfl⟩ | exact ⟨rfl, rfl, rfl⟩ | rfl | exact rowc (List.map_id _) | trivial
  · first | exact True.intro | exact ⟨rfl, rfl⟩ | exact ⟨rfl, rfl, rfl⟩ | rfl | exact rowc (List.map_id _) | trivial
  · first | exact True.intro | exact ⟨rfl, rfl⟩ | exact ⟨rfl, rfl, rfl⟩ | rfl | exact rowc (List.map_id _) | trivial
  rintro ⟨i, a, l⟩ ⟨g1, g2, g3, g4⟩
  dsimp only at g1 g2 g3 g4 ⊢
  try refine gr ?_
  refine br (fun b => ?_) (fun b => ?_)
  · obtain ⟨g5, g6, g7⟩ := g3 (by omega)
    try refine gr ?_
    refine br (fun c => ?_) (fun c => ?_)
    · try refine gr ?_
      refine br (fun d => ?_) (fun d => ?_)
      · have hd : s.getD i 0 = 47 := UInt8.toNat_inj.1 (show by' s i = 47 by omega)
        have hc := drop_cut s a i g5 (by omega)
        rw [hd] at hc
        rw [hc, sp_app g7] at g6
        try refine gr ?_
        refine .inr ?_
        refine ⟨(i + 1, i + 1, l ++ [(s.take i).drop a]), fun i => if i = 3 then 28 else i, ⟨by dsimp only; omega, by simp; omega, fun _ => ⟨Nat.le_refl _, by dsimp only; rw [List.drop_take, List.append_assoc]; exact g6, by simp⟩, fun h => by dsimp only at h; omega⟩, (by dsimp only; omega), fits_of (gr ?_) (gr ?_) (gr ?_) (gr ?_) (gr ?_)⟩
        · first | exact True.intro | exact ⟨rfl, rfl⟩ | exact ⟨rfl, rfl, rfl⟩ | rfl | exact rowc (List.map_id _) | trivial
        · first | exact True.intro | exact ⟨rfl, rfl⟩ | exact ⟨rfl, rfl, rfl⟩ | rfl | exact rowc (List.map_id _) | trivial
        · first | exact True.intro | exact ⟨rfl, rfl⟩ | exact ⟨rfl, rfl, rfl⟩ | rfl | exact rowc (List.map_id _) | trivial
        · first | exact True.intro | exact ⟨rfl, rfl⟩ | exact ⟨rfl, rfl, rfl⟩ | rfl | exact rowc (List.map_id _) | trivial
        · first | exact True.intro | exact ⟨rfl, rfl⟩ | exact ⟨rfl, rfl, rfl⟩ | rfl | exact rowc (List.map_id _) | trivial
      · have hm := mid_at s a i g5 (by omega)
        try refine gr ?_
        refine ⟨(i + 1, a, l), id, ⟨by dsimp only; omega, by dsimp only; omega, fun _ => ⟨by dsimp only; omega, g6, by dsimp only; rw [hm]; simp only [List.mem_append, List.mem_singleton, not_or]; exact ⟨g7, fun e => d (by unfold by'; rw [← e]; rfl)⟩⟩, fun h => by dsimp only at h; omega⟩, (by dsimp only; omega), fits_of (gr ?_) (gr ?_) (gr ?_) (gr ?_) (gr ?_)⟩
        · first | exact True.intro | exact ⟨rfl, rfl⟩ | exact ⟨rfl, rfl, rfl⟩ | rfl | exact rowc (List.map_id _) | trivial
        · first | exact True.intro | exact ⟨rfl, rfl⟩ | exact ⟨rfl, rfl, rfl⟩ | rfl | exact rowc (List.map_id _) | trivial
        · first | exact True.intro | exact ⟨rfl, rfl⟩ | exact ⟨rfl, rfl, rfl⟩ | rfl | exact rowc (List.map_id _) | trivial
        · first | exact True.intro | exact ⟨rfl, rfl⟩ | exact ⟨rfl, rfl, rfl⟩ | rfl | exact rowc (List.map_id _) | trivial
        · first | exact True.intro | exact ⟨rfl, rfl⟩ | exact ⟨rfl, rfl, rfl⟩ | rfl | exact rowc (List.map_id _) | trivial
    · have hi : i = s.length := by omega
      subst hi
      rw [List.take_of_length_le (by rw [List.length_drop]; exact Nat.le_refl _)] at g7
      rw [sp_no g7] at g6
      try refine gr ?_
      refine .inr ?_
      refine ⟨(s.length + 1, s.length + 1, l ++ [(s.take s.length).drop a]), fun i => if i = 3 then 28 else i, ⟨by dsimp only; omega, by simp; omega, fun h => by dsimp only at h; omega, fun _ => by dsimp only; rw [List.take_length]; exact g6⟩, (by dsimp only; omega), fits_of (gr ?_) (gr ?_) (gr ?_) (gr ?_) (gr ?_)⟩
      · first | exact True.intro | exact ⟨rfl, rfl⟩ | exact ⟨rfl, rfl, rfl⟩ | rfl | exact rowc (List.map_id _) | trivial
      · first | exact True.intro | exact ⟨rfl, rfl⟩ | exact ⟨rfl, rfl, rfl⟩ | rfl | exact rowc (List.map_id _) | trivial
      · first | exact True.intro | exact ⟨rfl, rfl⟩ | exact ⟨rfl, rfl, rfl⟩ | rfl | exact rowc (List.map_id _) | trivial
      · first | exact True.intro | exact ⟨rfl, rfl⟩ | exact ⟨rfl, rfl, rfl⟩ | rfl | exact rowc (List.map_id _) | trivial
      · first | exact True.intro | exact ⟨rfl, rfl⟩ | exact ⟨rfl, rfl, rfl⟩ | rfl | exact rowc (List.map_id _) | trivial
  · try refine gr ?_
    rw [g4 (by omega)]
    exact le_refl _
theorem rsgn_eq {r : Nat} {n : Int} (h : r = 65533 → n = 3) : rsgn r n = signN r := by
  rw [Bool.eq_iff_iff, rsgn_iff]
  simp only [signN, Bool.and_eq_true, Bool.or_eq_true, decide_eq_true_eq, ne_eq]
  constructor
  · rintro ⟨h1, h2, h3, h4, h5⟩
    exact ⟨⟨⟨h1, h3⟩, h2⟩, by omega⟩
  · rintro ⟨⟨⟨h1, h3⟩, h2⟩, h5⟩
    exact ⟨h1, h2, h3, h, by omega⟩
set_option maxHeartbeats 8000000 in
theorem rpart2_ok (s : List UInt8) : Spec Tryz.prog LL 35 [.s s] (.b (partB s)) := by
  refine spec_of (C := ⟨Tryz.prog, LL, EE, []⟩) (rl := [.b (partB s)]) (rs := [.tmp 2]) CCx LLs Tryz.func35 rfl (by kernel_rfl) rfl (by kernel_rfl) (Nat.le_of_ble_eq_true rfl) (fun i => rfl) (fun i => by first | rfl | exact (Bool.or_false _).trans (eSd_men _ _)) rfl (by decide) ?_
  refine gr ?_
  by_cases h1 : 1 ≤ s.length ∧ s.length ≤ 64 ∧ s ≠ [46] ∧ s ≠ [46, 46]
  · obtain ⟨h1, h2, h3, h4⟩ := h1
    have hpb : partB s = (Lib.validD s && runs (sgF false) s 0) := by
      unfold partB signsB
      rw [decide_eq_true h1, decide_eq_true h2, decide_eq_true h3, decide_eq_true h4]
      rfl
    have h0 : ¬ s = [] := by rintro rfl; simp at h1
    iterate 4 (refine br (fun b => ?_) (fun b => ?_) <;> first | (exfalso; first | omega | exact h0 b | exact h3 b | exact h4 b | exact b h3 | exact b h4 | exact b h0) | try refine gr ?_)
    refine lp_hd [0] [] (fun p : Nat => [(23, .p 23 0), (3, .n .i64 (p : Int))]) (fun p : Nat => [(23, .itr s p)]) (fun p : Nat => p ≤ s.length ∧ partB s = (Lib.validD (s.drop p) && runs (sgF false) s p)) (fun p : Nat => s.length - p) (0) id (id) ⟨Nat.zero_le _, by rw [hpb, List.drop_zero]⟩ (fits_of (gr ?_) (gr ?_) (gr ?_) (gr ?_) (gr ?_)) ?_
    · first | exact True.intro | exact ⟨rfl, rfl⟩ | exact ⟨rfl, rfl, rfl⟩ | rfl | exact rowc (List.map_id _) | trivial
    · first | exact True.intro | exact ⟨rfl, rfl⟩ | exact ⟨rfl, rfl, rfl⟩ | rfl | exact rowc (List.map_id _) | trivial
    · first | exact True.intro | exact ⟨rfl, rfl⟩ | exact ⟨rfl, rfl, rfl⟩ | rfl | exact rowc (List.map_id _) | trivial
    · first | exact True.intro | exact ⟨rfl, rfl⟩ | exact ⟨rfl, rfl, rfl⟩ | rfl | exact rowc (List.map_id _) | trivial
    · first | exact True.intro | exact ⟨rfl, rfl⟩ | exact ⟨rfl, rfl, rfl⟩ | rfl | exact rowc (List.map_id _) | trivial
    rintro p ⟨g1, g2⟩
    try refine gr ?_
    refine br (fun b => ?_) (fun b => ?_)
    · have d1 := dec_pos s p
      have d2 := dec_le s p b
      rw [runs_lt b] at g2
      have hsg : sgF false (dec s p).1 = signN (dec s p).1 := by simp [sgF]
      rw [hsg] at g2
      rcases dec_gen b with ⟨q1, q2, q3⟩ | ⟨q1, q2, q3⟩
      · have hF : partB s = false := by rw [g2, q2]; rfl
        have c' : (dec s p).1 = 65533 := by rw [q1]
        rw [hF, c', show ((65533 : Nat) : Int) = 65533 from rfl]
        try refine gr ?_
        refine cl (size_ok _) ?_
        refine gr ?_
        have hn : rsgn 65533 1 = false := by decide
        refine br (fun f => ?_) (fun f => ?_)
        · try refine gr ?_
          refine br (fun g => ?_) (fun g => ?_)
          · try refine gr ?_
            refine cl (rsign_ok 65533 1) ?_
            refine gr ?_
            rw [hn]
            try refine gr ?_
            trivial
          · exact absurd ⟨by omega, Decidable.not_not.1 g⟩ q3
        · try refine gr ?_
          refine cl (rsign_ok 65533 1) ?_
          refine gr ?_
          rw [hn]
          try refine gr ?_
          trivial
      · rw [q1] at g2
        have nx : signN (dec s p).1 = true → p + (dec s p).2 ≤ s.length ∧ partB s = (Lib.validD (s.drop (p + (dec s p).2)) && runs (sgF false) s (p + (dec s p).2)) := fun e => ⟨d2, by rw [g2, e]; simp⟩
        have no : signN (dec s p).1 = false → partB s = false := fun e => by rw [g2, e]; simp
        try refine gr ?_
        refine cl (size_ok _) ?_
        refine gr ?_
        refine br (fun c => ?_) (fun c => ?_)
        · obtain ⟨e1, e2, e3⟩ := q2 (by omega)
          have c' : (dec s p).1 = 65533 := by omega
          have nx := nx (by rw [c']; decide)
          try refine gr ?_
          refine br (fun f => ?_) (fun f => ?_)
          · try refine gr ?_
            refine br (fun g => ?_) (fun g => ?_)
            · exact absurd e2 g
            · have hn : rsgn 65533 3 = true := by decide
              try refine gr ?_
              rw [c', show ((65533 : Nat) : Int) = 65533 from rfl, size_ff]
              refine cl (rsign_ok 65533 3) ?_
              refine gr ?_
              rw [hn]
              try refine gr ?_
              refine ⟨p + (dec s p).2, nx, (by omega), fits_of (gr ?_) (gr ?_) (gr ?_) (gr ?_) (gr ?_)⟩
              · first | exact True.intro | exact ⟨rfl, rfl⟩ | exact ⟨rfl, rfl, rfl⟩ | rfl | exact rowc (List.map_id _) | trivial
              · (rw [e3]; rfl)
              · first | exact True.intro | exact ⟨rfl, rfl⟩ | exact ⟨rfl, rfl, rfl⟩ | rfl | exact rowc (List.map_id _) | trivial
              · first | exact True.intro | exact ⟨rfl, rfl⟩ | exact ⟨rfl, rfl, rfl⟩ | rfl | exact rowc (List.map_id _) | trivial
              · first | exact True.intro | exact ⟨rfl, rfl⟩ | exact ⟨rfl, rfl, rfl⟩ | rfl | exact rowc (List.map_id _) | trivial
          · exfalso; omega
        · have q3 := q3 (by omega)
          have hn : rsgn (dec s p).1 (sizeN ((dec s p).1 : Int)) = signN (dec s p).1 := rsgn_eq (fun e => by omega)
          try refine gr ?_
          refine cl (rsign_ok (dec s p).1 _) ?_
          refine gr ?_
          rw [hn]
          refine br (fun w => ?_) (fun w => ?_)
          · rw [no (by simpa using w)]
            try refine gr ?_
            trivial
          · have nx := nx (by simpa using w)
            try refine gr ?_
            rw [q3]
            try refine gr ?_
            refine ⟨p + (dec s p).2, nx, (by omega), fits_of (gr ?_) (gr ?_) (gr ?_) (gr ?_) (gr ?_)⟩
            · first | exact True.intro | exact ⟨rfl, rfl⟩ | exact ⟨rfl, rfl, rfl⟩ | rfl | exact rowc (List.map_id _) | trivial
            · first | exact True.intro | exact ⟨rfl, rfl⟩ | exact ⟨rfl, rfl, rfl⟩ | rfl | exact rowc (List.map_id _) | trivial
            · first | exact True.intro | exact ⟨rfl, rfl⟩ | exact ⟨rfl, rfl, rfl⟩ | rfl | exact rowc (List.map_id _) | trivial
            · first | exact True.intro | exact ⟨rfl, rfl⟩ | exact ⟨rfl, rfl, rfl⟩ | rfl | exact rowc (List.map_id _) | trivial
            · first | exact True.intro | exact ⟨rfl, rfl⟩ | exact ⟨rfl, rfl, rfl⟩ | rfl | exact rowc (List.map_id _) | trivial
    · try refine gr ?_
      rw [g2, List.drop_eq_nil_of_le (by omega), runs_ge (by omega)]
      rfl
  · have hF : partB s = false := by
      rw [Bool.eq_false_iff]
      intro h
      unfold partB at h
      simp only [Bool.and_eq_true, decide_eq_true_eq] at h
      exact h1 ⟨h.1.1.1.1, h.1.1.1.2, h.1.1.2, h.1.2⟩
    rw [hF]
    by_cases b1 : s = []
    · subst b1
      try refine gr ?_
      trivial
    · have hl : 0 < s.length := List.length_pos_iff.2 b1
      refine br (fun w1 => ?_) (fun w1 => ?_)
      · try refine gr ?_
        refine br (fun w2 => ?_) (fun w2 => ?_)
        · try refine gr ?_
          refine br (fun w3 => ?_) (fun w3 => ?_)
          · try refine gr ?_
            refine br (fun w4 => ?_) (fun w4 => ?_)
            · try refine gr ?_
              trivial
            · exact absurd ⟨hl, by omega, w3, w4⟩ h1
          · try refine gr ?_
            trivial
        · try refine gr ?_
          trivial
      · exact absurd b1 w1
theorem rparts2_ok (s : List UInt8) : Spec Tryz.prog LL 21 [.s s] (.tp [.sl 1 (List UInt8) [] (partsM s).1 .s, .n .i64 (partsM s).2]) := by
  refine spec_of (C := ⟨Tryz.prog, LL, EE, []⟩) (rl := [.sl 1 (List UInt8) [] (partsM s).1 .s, .n .i64 (partsM s).2]) (rs := [.tmp 2, .tmp 3]) CCx LLs Tryz.func21 rfl (by kernel_rfl) rfl (by kernel_rfl) (Nat.le_of_ble_eq_true rfl) (fun i => rfl) (fun i => by first | rfl | exact (Bool.or_false _).trans (eSd_men _ _)) rfl (by decide) ?_
  refine gr ?_
  refine br (fun a => ?_) (fun a => ?_)
  · try refine gr ?_
    rw [show partsM s = ([], 3) from if_pos (by omega)]
    exact ⟨le_nl, rfl⟩
  · try refine gr ?_
    refine cl (rsplit_ok s (by omega)) ?_
    refine gr ?_
    refine lp_hd [4] [] (fun i : Nat => [(5, .n .i64 (i : Int))]) (fun i : Nat => []) (fun i : Nat => i ≤ (sp 47 s).length ∧ ∀ j, j < i → partB ((sp 47 s).getD j []) = true) (fun i : Nat => (sp 47 s).length - i) (0) id (id) ⟨Nat.zero_le _, fun j h => by omega⟩ (fits_of (gr ?_) (gr ?_) (gr ?_) (gr ?_) (gr ?_)) ?_
    · first | exact True.intro | exact ⟨rfl, rfl⟩ | exact ⟨rfl, rfl, rfl⟩ | rfl | exact rowc (List.map_id _) | trivial
    · first | exact True.intro | exact ⟨rfl, rfl⟩ | exact ⟨rfl, rfl, rfl⟩ | rfl | exact rowc (List.map_id _) | trivial
    · first | exact True.intro | exact ⟨rfl, rfl⟩ | exact ⟨rfl, rfl, rfl⟩ | rfl | exact rowc (List.map_id _) | trivial
    · first | exact True.intro | exact ⟨rfl, rfl⟩ | exact ⟨rfl, rfl, rfl⟩ | rfl | exact rowc (List.map_id _) | trivial
    · first | exact True.intro | exact ⟨rfl, rfl⟩ | exact ⟨rfl, rfl, rfl⟩ | rfl | exact rowc (List.map_id _) | trivial
    rintro i ⟨hi, hj⟩
    have hcn := sp_len 47 s
    try refine gr ?_
    refine br (fun b => ?_) (fun b => ?_)
    · try refine gr ?_
      refine cl (rpart2_ok _) ?_
      refine gr ?_
      refine br (fun c => ?_) (fun c => ?_)
      · try refine gr ?_
        rw [show partsM s = ([], 4) from (by
          unfold partsM
          rw [if_neg (by omega), if_pos]
          rw [List.all_eq_true]
          intro h
          have := h _ (getD_mem (x := []) (show i < (sp 47 s).length by omega))
          rw [this] at c
          cases c)]
        exact ⟨le_nl, rfl⟩
      · have nx : ∀ j, j < i + 1 → partB ((sp 47 s).getD j []) = true := fun j h => by
          rcases Nat.lt_or_ge j i with h' | h'
          · exact hj j h'
          · rw [show j = i by omega]; simpa using c
        try refine gr ?_
        refine ⟨i + 1, ⟨by omega, nx⟩, (by omega), fits_of (gr ?_) (gr ?_) (gr ?_) (gr ?_) (gr ?_)⟩
        · first | exact True.intro | exact ⟨rfl, rfl⟩ | exact ⟨rfl, rfl, rfl⟩ | rfl | exact rowc (List.map_id _) | trivial
        · first | exact True.intro | exact ⟨rfl, rfl⟩ | exact ⟨rfl, rfl, rfl⟩ | rfl | exact rowc (List.map_id _) | trivial
        · first | exact True.intro | exact ⟨rfl, rfl⟩ | exact ⟨rfl, rfl, rfl⟩ | rfl | exact rowc (List.map_id _) | trivial
        · first | exact True.intro | exact ⟨rfl, rfl⟩ | exact ⟨rfl, rfl, rfl⟩ | rfl | exact rowc (List.map_id _) | trivial
        · first | exact True.intro | exact ⟨rfl, rfl⟩ | exact ⟨rfl, rfl, rfl⟩ | rfl | exact rowc (List.map_id _) | trivial
    · have hall : (sp 47 s).all partB = true := by
        rw [List.all_eq_true]
        intro x hx
        obtain ⟨j, h, rfl⟩ := List.getElem_of_mem hx
        have := hj j (by omega)
        rwa [List.getD_eq_getElem?_getD, List.getElem?_eq_getElem h] at this
      try refine gr ?_
      refine br (fun c => ?_) (fun c => ?_)
      · try refine gr ?_
        rw [show partsM s = ([], 3) from (by unfold partsM; rw [if_neg (by omega), if_neg (fun e => e hall), if_pos (by omega)])]
        exact ⟨le_nl, rfl⟩
      · try refine gr ?_
        rw [show partsM s = (sp 47 s, 0) from (by unfold partsM; rw [if_neg (by omega), if_neg (fun e => e hall), if_neg (by omega)])]
        exact ⟨le_refl _, rfl⟩
set_option maxHeartbeats 8000000 in
theorem rtarget2_ok (s : List UInt8) : Spec Tryz.prog LL 22 [.s s] (.b (tarB s)) := by
  refine spec_of (C := ⟨Tryz.prog, LL, EE, []⟩) (rl := [.b (tarB s)]) (rs := [.tmp 2]) CCx LLs Tryz.func22 rfl (by kernel_rfl) rfl (by kernel_rfl) (Nat.le_of_ble_eq_true rfl) (fun i => rfl) (fun i => by first | rfl | exact (Bool.or_false _).trans (eSd_men _ _)) rfl (by decide) ?_
  refine gr ?_
  by_cases h1 : 1 ≤ s.length ∧ s.length ≤ 200
  · obtain ⟨h1, h2⟩ := h1
    have hpb : tarB s = (Lib.validD s && runs (sgF true) s 0) := by
      unfold tarB signsB
      rw [decide_eq_true h1, decide_eq_true h2]
      rfl
    have h0 : ¬ s = [] := by rintro rfl; simp at h1
    iterate 2 (refine br (fun b => ?_) (fun b => ?_) <;> first | (exfalso; first | omega | exact h0 b | exact b h0) | try refine gr ?_)
    refine lp_hd [0] [] (fun p : Nat => [(15, .p 15 0), (3, .n .i64 (p : Int))]) (fun p : Nat => [(15, .itr s p)]) (fun p : Nat => p ≤ s.length ∧ tarB s = (Lib.validD (s.drop p) && runs (sgF true) s p)) (fun p : Nat => s.length - p) (0) id (id) ⟨Nat.zero_le _, by rw [hpb, List.drop_zero]⟩ (fits_of (gr ?_) (gr ?_) (gr ?_) (gr ?_) (gr ?_)) ?_
    · first | exact True.intro | exact ⟨rfl, rfl⟩ | exact ⟨rfl, rfl, rfl⟩ | rfl | exact rowc (List.map_id _) | trivial
    · first | exact True.intro | exact ⟨rfl, rfl⟩ | exact ⟨rfl, rfl, rfl⟩ | rfl | exact rowc (List.map_id _) | trivial
    · first | exact True.intro | exact ⟨rfl, rfl⟩ | exact ⟨rfl, rfl, rfl⟩ | rfl | exact rowc (List.map_id _) | trivial
    · first | exact True.intro | exact ⟨rfl, rfl⟩ | exact ⟨rfl, rfl, rfl⟩ | rfl | exact rowc (List.map_id _) | trivial
    · first | exact True.intro | exact ⟨rfl, rfl⟩ | exact ⟨rfl, rfl, rfl⟩ | rfl | exact rowc (List.map_id _) | trivial
    rintro p ⟨g1, g2⟩
    try refine gr ?_
    refine br (fun b => ?_) (fun b => ?_)
    · have d1 := dec_pos s p
      have d2 := dec_le s p b
      rw [runs_lt b] at g2
      have hsg : sgF true (dec s p).1 = (signN (dec s p).1 || decide ((dec s p).1 = 47)) := by simp [sgF]
      rw [hsg] at g2
      rcases dec_gen b with ⟨q1, q2, q3⟩ | ⟨q1, q2, q3⟩
      · have hF : tarB s = false := by rw [g2, q2]; rfl
        have c' : (dec s p).1 = 65533 := by rw [q1]
        rw [hF, c', show ((65533 : Nat) : Int) = 65533 from rfl]
        try refine gr ?_
        refine cl (size_ok _) ?_
        refine gr ?_
        have hn : rsgn 65533 1 = false := by decide
        refine br (fun f => ?_) (fun f => ?_)
        · try refine gr ?_
          refine br (fun g => ?_) (fun g => ?_)
          · try refine gr ?_
            refine cl (rsign_ok 65533 1) ?_
            refine gr ?_
            rw [hn]
            try refine gr ?_
            trivial
          · exact absurd ⟨by omega, Decidable.not_not.1 g⟩ q3
        · try refine gr ?_
          refine cl (rsign_ok 65533 1) ?_
          refine gr ?_
          rw [hn]
          try refine gr ?_
          trivial
      · rw [q1] at g2
        have nx : signN (dec s p).1 = true ∨ (dec s p).1 = 47 → p + (dec s p).2 ≤ s.length ∧ tarB s = (Lib.validD (s.drop (p + (dec s p).2)) && runs (sgF true) s (p + (dec s p).2)) := fun e => ⟨d2, by rcases e with e | e <;> (rw [g2, e]; simp)⟩
        have no : signN (dec s p).1 = false → ¬ (dec s p).1 = 47 → tarB s = false := fun e e2 => by rw [g2, e, decide_eq_false e2]; simp
        try refine gr ?_
        refine cl (size_ok _) ?_
        refine gr ?_
        refine br (fun c => ?_) (fun c => ?_)
        · obtain ⟨e1, e2, e3⟩ := q2 (by omega)
          have c' : (dec s p).1 = 65533 := by omega
          have nx := nx (.inl (by rw [c']; decide))
          try refine gr ?_
          refine br (fun f => ?_) (fun f => ?_)
          · try refine gr ?_
            refine br (fun g => ?_) (fun g => ?_)
            · exact absurd e2 g
            · have hn : rsgn 65533 3 = true := by decide
              try refine gr ?_
              rw [c', show ((65533 : Nat) : Int) = 65533 from rfl, size_ff]
              try refine gr ?_
              refine cl (rsign_ok 65533 3) ?_
              refine gr ?_
              rw [hn]
              try refine gr ?_
              refine ⟨p + (dec s p).2, nx, (by omega), fits_of (gr ?_) (gr ?_) (gr ?_) (gr ?_) (gr ?_)⟩
              · first | exact True.intro | exact ⟨rfl, rfl⟩ | exact ⟨rfl, rfl, rfl⟩ | rfl | exact rowc (List.map_id _) | trivial
              · (rw [e3]; rfl)
              · first | exact True.intro | exact ⟨rfl, rfl⟩ | exact ⟨rfl, rfl, rfl⟩ | rfl | exact rowc (List.map_id _) | trivial
              · first | exact True.intro | exact ⟨rfl, rfl⟩ | exact ⟨rfl, rfl, rfl⟩ | rfl | exact rowc (List.map_id _) | trivial
              · first | exact True.intro | exact ⟨rfl, rfl⟩ | exact ⟨rfl, rfl, rfl⟩ | rfl | exact rowc (List.map_id _) | trivial
          · exfalso; omega
        · have q3 := q3 (by omega)
          have hn : rsgn (dec s p).1 (sizeN ((dec s p).1 : Int)) = signN (dec s p).1 := rsgn_eq (fun e => by omega)
          try refine gr ?_
          refine br (fun d => ?_) (fun d => ?_)
          · try refine gr ?_
            refine cl (rsign_ok (dec s p).1 _) ?_
            refine gr ?_
            rw [hn]
            refine br (fun w => ?_) (fun w => ?_)
            · rw [no (by simpa using w) (by omega)]
              try refine gr ?_
              trivial
            · have nx := nx (.inl (by simpa using w))
              try refine gr ?_
              rw [q3]
              try refine gr ?_
              refine ⟨p + (dec s p).2, nx, (by omega), fits_of (gr ?_) (gr ?_) (gr ?_) (gr ?_) (gr ?_)⟩
              · first | exact True.intro | exact ⟨rfl, rfl⟩ | exact ⟨rfl, rfl, rfl⟩ | rfl | exact rowc (List.map_id _) | trivial
              · first | exact True.intro | exact ⟨rfl, rfl⟩ | exact ⟨rfl, rfl, rfl⟩ | rfl | exact rowc (List.map_id _) | trivial
              · first | exact True.intro | exact ⟨rfl, rfl⟩ | exact ⟨rfl, rfl, rfl⟩ | rfl | exact rowc (List.map_id _) | trivial
              · first | exact True.intro | exact ⟨rfl, rfl⟩ | exact ⟨rfl, rfl, rfl⟩ | rfl | exact rowc (List.map_id _) | trivial
              · first | exact True.intro | exact ⟨rfl, rfl⟩ | exact ⟨rfl, rfl, rfl⟩ | rfl | exact rowc (List.map_id _) | trivial
          · have nx := nx (.inr (by omega))
            try refine gr ?_
            rw [q3]
            try refine gr ?_
            refine ⟨p + (dec s p).2, nx, (by omega), fits_of (gr ?_) (gr ?_) (gr ?_) (gr ?_) (gr ?_)⟩
            · first | exact True.intro | exact ⟨rfl, rfl⟩ | exact ⟨rfl, rfl, rfl⟩ | rfl | exact rowc (List.map_id _) | trivial
            · first | exact True.intro | exact ⟨rfl, rfl⟩ | exact ⟨rfl, rfl, rfl⟩ | rfl | exact rowc (List.map_id _) | trivial
            · first | exact True.intro | exact ⟨rfl, rfl⟩ | exact ⟨rfl, rfl, rfl⟩ | rfl | exact rowc (List.map_id _) | trivial
            · first | exact True.intro | exact ⟨rfl, rfl⟩ | exact ⟨rfl, rfl, rfl⟩ | rfl | exact rowc (List.map_id _) | trivial
            · first | exact True.intro | exact ⟨rfl, rfl⟩ | exact ⟨rfl, rfl, rfl⟩ | rfl | exact rowc (List.map_id _) | trivial
    · try refine gr ?_
      rw [g2, List.drop_eq_nil_of_le (by omega), runs_ge (by omega)]
      rfl
  · have hF : tarB s = false := by
      rw [Bool.eq_false_iff]
      intro h
      unfold tarB at h
      simp only [Bool.and_eq_true, decide_eq_true_eq] at h
      exact h1 ⟨h.1.1, h.1.2⟩
    rw [hF]
    by_cases b1 : s = []
    · subst b1
      try refine gr ?_
      trivial
    · have hl : 0 < s.length := List.length_pos_iff.2 b1
      refine br (fun w1 => ?_) (fun w1 => ?_)
      · try refine gr ?_
        refine br (fun w2 => ?_) (fun w2 => ?_)
        · try refine gr ?_
          trivial
        · exfalso; omega
      · exact absurd b1 w1
end Go.Proofs.YtikmkgoeepgbkaaGreatDoor.Ev
