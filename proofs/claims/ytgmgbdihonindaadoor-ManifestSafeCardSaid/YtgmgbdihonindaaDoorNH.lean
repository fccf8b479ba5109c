/- The document's paths. -/
import Derived.Test.YtgmgbdihonindaaDoorNF
import Derived.Test.YtgmgbdihonindaaDoorNU
set_option linter.all false
namespace Go.Proofs.YtgmgbdihonindaaDoor.Ev
open Go.RowKit
open Go.Proofs.YtgmgbdihonindaaDoor.Mem
set_option linter.unusedVariables false
set_option linter.unusedSimpArgs false
set_option maxRecDepth 100000
/-- How many bytes a rune has. -/
def sizeN (r : Int) : Int := Pz.rsize_m r
theorem size_ok (r : Int) : Spec Tryd.prog LL 44 [.n .i32 r] (.n .i64 (sizeN r)) := by
  refine Spec.of (fn := Tryd.f44) Tryd.func44 (by kernel_rfl) (by kernel_rfl) (fun _ => rfl) fun S W xs hL hz hx _ => ?_
  have e : xs = #[.int .i32 r] := by
    have h2 : xs.size = 1 := hz
    have e0 := (hx 0 (.n .i32 r) _ rfl (Array.getElem?_eq_getElem (by omega))).n_inv
    apply Array.ext
    · simpa using h2
    · intro i p q
      obtain rfl : i = 0 := by simp at q; omega
      exact e0
  rw [e]
  exact (Pz.rsize_any r W).mono fun e W' h => ⟨_, h.1, h.2, .n _ _ _⟩
theorem dec_good {s : List UInt8} {p : Nat} (h : p < s.length) (hv : Lib.validD (s.drop p) = true) : Lib.validD (s.drop (p + (dec s p).2)) = true ∧ ((dec s p).1 = 65533 → p + 3 ≤ s.length ∧ (s.take (p + 3)).drop p = [239, 191, 189] ∧ (dec s p).2 = 3) ∧ (¬ (dec s p).1 = 65533 → sizeN ((dec s p).1 : Int) = ((dec s p).2 : Nat)) := by
  obtain ⟨h1, h2⟩ := Pz.good_at s p h hv
  rw [nxp_lt h] at h2
  refine ⟨h2, fun h3 => ?_, fun h3 => Pz.dec_w s p h3⟩
  rcases Pz.dec_ff s p h3 with h4 | ⟨h4, h5, h6⟩
  · exact absurd (Prod.ext h3 h4) h1
  · exact ⟨h5, (Pz.three_iff s p h5).2 h6, h4⟩
theorem size_ff : sizeN 65533 = 3 := by decide
def rsgn (r : Nat) (n : Int) : Bool := decide (32 < r) && decide (r ≠ 127) && decide (r ≠ 47) && !(decide (r = 65533) && decide (n ≠ 3)) && !(decide (128 ≤ r) && decide (r < 160))
theorem rsgn_iff {r : Nat} {n : Int} : rsgn r n = true ↔ (32 < r ∧ r ≠ 127 ∧ r ≠ 47 ∧ (r = 65533 → n = 3) ∧ ¬ (128 ≤ r ∧ r < 160)) := by
  simp only [rsgn, Bool.and_eq_true, Bool.not_eq_true', Bool.and_eq_false_iff, decide_eq_true_eq, decide_eq_false_iff_not]
  omega
theorem rsign_ok (r : Nat) (n : Int) : Spec Tryd.prog LL 45 [.n .i32 (r : Int), .n .i64 n] (.b (rsgn r n)) := by
  refine spec_of (C := ⟨Tryd.prog, LL, EE, []⟩) (rl := [.b (rsgn r n)]) (rs := [.tmp 4]) CCx LLs Tryd.func45 rfl (by kernel_rfl) rfl (by kernel_rfl) (Nat.le_of_ble_eq_true rfl) (fun i => rfl) (fun i => by first | rfl | exact (Bool.or_false _).trans (eSd_men _ _)) rfl (by decide) ?_
  refine gr ?_
  repeat' (first | exact True.intro | (exact (rsgn_iff.2 (by omega)).symm) | (exact (Bool.eq_false_iff.2 fun e => by have := rsgn_iff.1 e; omega).symm) | (rw [Bool.eq_iff_iff, rsgn_iff]; simp only [Bool.not_eq_true', decide_eq_false_iff_not, decide_eq_true_eq]; omega) | refine br (fun h => ?_) (fun h => ?_) | refine gr ?_)
theorem rsgn_of {r : Nat} {n : Int} (h : signN r = true) (hn : r = 65533 → n = 3) : rsgn r n = true := by
  simp only [signN, Bool.and_eq_true, Bool.or_eq_true, decide_eq_true_eq] at h
  exact rsgn_iff.2 ⟨h.1.1.1, h.1.2, h.1.1.2, hn, by omega⟩
set_option maxHeartbeats 4000000 in
theorem rpart_ok (s : List UInt8) (h : partB s = true) : Spec Tryd.prog LL 42 [.s s] (.b true) := by
  refine spec_of (C := ⟨Tryd.prog, LL, EE, []⟩) (rl := [.b true]) (rs := [.tmp 2]) CCx LLs Tryd.func42 rfl (by kernel_rfl) rfl (by kernel_rfl) (Nat.le_of_ble_eq_true rfl) (fun i => rfl) (fun i => by first | rfl | exact (Bool.or_false _).trans (eSd_men _ _)) rfl (by decide) ?_
  refine gr ?_
  have hp : 1 ≤ s.length ∧ s.length ≤ 64 ∧ s ≠ [46] ∧ s ≠ [46, 46] ∧ signsB s false = true := by
    unfold partB at h
    simp only [Bool.and_eq_true, decide_eq_true_eq] at h
    exact ⟨h.1.1.1.1, h.1.1.1.2, h.1.1.2, h.1.2, h.2⟩
  obtain ⟨h1, h2, h3, h4, h5⟩ := hp
  unfold signsB at h5
  rw [Bool.and_eq_true] at h5
  have h0 : ¬ s = [] := by rintro rfl; simp at h1
  iterate 4 (refine br (fun b => ?_) (fun b => ?_) <;> first | (exfalso; first | omega | exact h0 b | exact h3 b | exact h4 b | exact b h3 | exact b h4 | exact b h0) | try refine gr ?_)
  refine lp_hd [0] [] (fun p : Nat => [(23, .p 23 0), (3, .n .i64 (p : Int))]) (fun p : Nat => [(23, .itr s p)]) (fun p : Nat => p ≤ s.length ∧ runs (sgF false) s p = true ∧ Lib.validD (s.drop p) = true) (fun p : Nat => s.length - p) (0) id (id) ⟨Nat.zero_le _, h5.2, by rw [List.drop_zero]; exact h5.1⟩ (fits_of (gr ?_) (gr ?_) (gr ?_) (gr ?_) (gr ?_)) ?_
  · first | exact True.intro | exact ⟨rfl, rfl⟩ | exact ⟨rfl, rfl, rfl⟩ | rfl | exact rowc (List.map_id _) | trivial
  · first | exact True.intro | exact ⟨rfl, rfl⟩ | exact ⟨rfl, rfl, rfl⟩ | rfl | exact rowc (List.map_id _) | trivial
  · first | exact True.intro | exact ⟨rfl, rfl⟩ | exact ⟨rfl, rfl, rfl⟩ | rfl | exact rowc (List.map_id _) | trivial
  · first | exact True.intro | exact ⟨rfl, rfl⟩ | exact ⟨rfl, rfl, rfl⟩ | rfl | exact rowc (List.map_id _) | trivial
  · first | exact True.intro | exact ⟨rfl, rfl⟩ | exact ⟨rfl, rfl, rfl⟩ | rfl | exact rowc (List.map_id _) | trivial
  rintro p ⟨g1, g2, g3⟩
  try refine gr ?_
  refine br (fun b => ?_) (fun b => ?_)
  · obtain ⟨q1, q2, q3⟩ := dec_good b g3
    have d1 := dec_pos s p
    have d2 := dec_le s p b
    rw [runs_lt b, Bool.and_eq_true] at g2
    have gs : signN (dec s p).1 = true := by simpa [sgF] using g2.1
    have nx : p + (dec s p).2 ≤ s.length ∧ runs (sgF false) s (p + (dec s p).2) = true ∧ Lib.validD (s.drop (p + (dec s p).2)) = true := ⟨d2, g2.2, q1⟩
    try refine gr ?_
    refine cl (size_ok _) ?_
    refine gr ?_
    refine br (fun c => ?_) (fun c => ?_)
    · obtain ⟨e1, e2, e3⟩ := q2 (by omega)
      have c' : (dec s p).1 = 65533 := by omega
      try refine gr ?_
      refine br (fun f => ?_) (fun f => ?_)
      · try refine gr ?_
        refine br (fun g => ?_) (fun g => ?_)
        · exact absurd e2 g
        · have hn : rsgn 65533 3 = true := by decide
          try refine gr ?_
          rw [c', show ((65533 : Nat) : Int) = 65533 from rfl, size_ff] 
          refine cl (rsign_ok 65533 3) ?_
          refine gr ?_
          rw [hn]
          try refine gr ?_
          refine ⟨p + (dec s p).2, nx, (by omega), fits_of (gr ?_) (gr ?_) (gr ?_) (gr ?_) (gr ?_)⟩
          · first | exact True.intro | exact ⟨rfl, rfl⟩ | exact ⟨rfl, rfl, rfl⟩ | rfl | exact rowc (List.map_id _) | trivial
          · (rw [e3]; rfl)
          · first | exact True.intro | exact ⟨rfl, rfl⟩ | exact ⟨rfl, rfl, rfl⟩ | rfl | exact rowc (List.map_id _) | trivial
          · first | exact True.intro | exact ⟨rfl, rfl⟩ | exact ⟨rfl, rfl, rfl⟩ | rfl | exact rowc (List.map_id _) | trivial
          · first | exact True.intro | exact ⟨rfl, rfl⟩ | exact ⟨rfl, rfl, rfl⟩ | rfl | exact rowc (List.map_id _) | trivial
      · exfalso; omega
    · have q3 := q3 (by omega)
      have hn : rsgn (dec s p).1 (sizeN ((dec s p).1 : Int)) = true := rsgn_of gs (fun e => by omega)
      try refine gr ?_
      refine cl (rsign_ok (dec s p).1 _) ?_
      refine gr ?_
      rw [hn]
      try refine gr ?_
      rw [q3]
      try refine gr ?_
      refine ⟨p + (dec s p).2, nx, (by omega), fits_of (gr ?_) (gr ?_) (gr ?_) (gr ?_) (gr ?_)⟩
      · first | exact True.intro | exact ⟨rfl, rfl⟩ | exact ⟨rfl, rfl, rfl⟩ | rfl | exact rowc (List.map_id _) | trivial
      · first | exact True.intro | exact ⟨rfl, rfl⟩ | exact ⟨rfl, rfl, rfl⟩ | rfl | exact rowc (List.map_id _) | trivial
      · first | exact True.intro | exact ⟨rfl, rfl⟩ | exact ⟨rfl, rfl, rfl⟩ | rfl | exact rowc (List.map_id _) | trivial
      · first | exact True.intro | exact ⟨rfl, rfl⟩ | exact ⟨rfl, rfl, rfl⟩ | rfl | exact rowc (List.map_id _) | trivial
      · first | exact True.intro | exact ⟨rfl, rfl⟩ | exact ⟨rfl, rfl, rfl⟩ | rfl | exact rowc (List.map_id _) | trivial
  · try refine gr ?_
    trivial
set_option maxHeartbeats 4000000 in
theorem rtarget_ok (s : List UInt8) (h : tarB s = true) : Spec Tryd.prog LL 25 [.s s] (.b true) := by
  refine spec_of (C := ⟨Tryd.prog, LL, EE, []⟩) (rl := [.b true]) (rs := [.tmp 2]) CCx LLs Tryd.func25 rfl (by kernel_rfl) rfl (by kernel_rfl) (Nat.le_of_ble_eq_true rfl) (fun i => rfl) (fun i => by first | rfl | exact (Bool.or_false _).trans (eSd_men _ _)) rfl (by decide) ?_
  refine gr ?_
  have hp : 1 ≤ s.length ∧ s.length ≤ 200 ∧ signsB s true = true := by
    unfold tarB at h
    simp only [Bool.and_eq_true, decide_eq_true_eq] at h
    exact ⟨h.1.1, h.1.2, h.2⟩
  obtain ⟨h1, h2, h5⟩ := hp
  unfold signsB at h5
  rw [Bool.and_eq_true] at h5
  have h0 : ¬ s = [] := by rintro rfl; simp at h1
  iterate 2 (refine br (fun b => ?_) (fun b => ?_) <;> first | (exfalso; first | omega | exact h0 b | exact b h0) | try refine gr ?_)
  refine lp_hd [0] [] (fun p : Nat => [(15, .p 15 0), (3, .n .i64 (p : Int))]) (fun p : Nat => [(15, .itr s p)]) (fun p : Nat => p ≤ s.length ∧ runs (sgF true) s p = true ∧ Lib.validD (s.drop p) = true) (fun p : Nat => s.length - p) (0) id (id) ⟨Nat.zero_le _, h5.2, by rw [List.drop_zero]; exact h5.1⟩ (fits_of (gr ?_) (gr ?_) (gr ?_) (gr ?_) (gr ?_)) ?_
  · first | exact True.intro | exact ⟨rfl, rfl⟩ | exact ⟨rfl, rfl, rfl⟩ | rfl | exact rowc (List.map_id _) | trivial
  · first | exact True.intro | exact ⟨rfl, rfl⟩ | exact ⟨rfl, rfl, rfl⟩ | rfl | exact rowc (List.map_id _) | trivial
  · first | exact True.intro | exact ⟨rfl, rfl⟩ | exact ⟨rfl, rfl, rfl⟩ | rfl | exact rowc (List.map_id _) | trivial
  · first | exact True.intro | exact ⟨rfl, rfl⟩ | exact ⟨rfl, rfl, rfl⟩ | rfl | exact rowc (List.map_id _) | trivial
  · first | exact True.intro | exact ⟨rfl, rfl⟩ | exact ⟨rfl, rfl, rfl⟩ | rfl | exact rowc (List.map_id _) | trivial
  rintro p ⟨g1, g2, g3⟩
  try refine gr ?_
  refine br (fun b => ?_) (fun b => ?_)
  · obtain ⟨q1, q2, q3⟩ := dec_good b g3
    have d1 := dec_pos s p
    have d2 := dec_le s p b
    rw [runs_lt b, Bool.and_eq_true] at g2
    have gs : signN (dec s p).1 = true ∨ (dec s p).1 = 47 := by simpa [sgF] using g2.1
    have nx : p + (dec s p).2 ≤ s.length ∧ runs (sgF true) s (p + (dec s p).2) = true ∧ Lib.validD (s.drop (p + (dec s p).2)) = true := ⟨d2, g2.2, q1⟩
    try refine gr ?_
    refine cl (size_ok _) ?_
    refine gr ?_
    refine br (fun c => ?_) (fun c => ?_)
    · obtain ⟨e1, e2, e3⟩ := q2 (by omega)
      have c' : (dec s p).1 = 65533 := by omega
      try refine gr ?_
      refine br (fun f => ?_) (fun f => ?_)
      · try refine gr ?_
        refine br (fun g => ?_) (fun g => ?_)
        · exact absurd e2 g
        · have hn : rsgn 65533 3 = true := by decide
          try refine gr ?_
          rw [c', show ((65533 : Nat) : Int) = 65533 from rfl, size_ff]
          try refine gr ?_
          refine cl (rsign_ok 65533 3) ?_
          refine gr ?_
          rw [hn]
          try refine gr ?_
          refine ⟨p + (dec s p).2, nx, (by omega), fits_of (gr ?_) (gr ?_) (gr ?_) (gr ?_) (gr ?_)⟩
          · first | exact True.intro | exact ⟨rfl, rfl⟩ | exact ⟨rfl, rfl, rfl⟩ | rfl | exact rowc (List.map_id _) | trivial
          · (rw [e3]; rfl)
          · first | exact True.intro | exact ⟨rfl, rfl⟩ | exact ⟨rfl, rfl, rfl⟩ | rfl | exact rowc (List.map_id _) | trivial
          · first | exact True.intro | exact ⟨rfl, rfl⟩ | exact ⟨rfl, rfl, rfl⟩ | rfl | exact rowc (List.map_id _) | trivial
          · first | exact True.intro | exact ⟨rfl, rfl⟩ | exact ⟨rfl, rfl, rfl⟩ | rfl | exact rowc (List.map_id _) | trivial
      · exfalso; omega
    · have q3 := q3 (by omega)
      try refine gr ?_
      refine br (fun d => ?_) (fun d => ?_)
      · have hn : rsgn (dec s p).1 (sizeN ((dec s p).1 : Int)) = true := rsgn_of (gs.resolve_right (by omega)) (fun e => by omega)
        try refine gr ?_
        refine cl (rsign_ok (dec s p).1 _) ?_
        refine gr ?_
        rw [hn]
        try refine gr ?_
        rw [q3]
        try refine gr ?_
        refine ⟨p + (dec s p).2, nx, (by omega), fits_of (gr ?_) (gr ?_) (gr ?_) (gr ?_) (gr ?_)⟩
        · first | exact True.intro | exact ⟨rfl, rfl⟩ | exact ⟨rfl, rfl, rfl⟩ | rfl | exact rowc (List.map_id _) | trivial
        · first | exact True.intro | exact ⟨rfl, rfl⟩ | exact ⟨rfl, rfl, rfl⟩ | rfl | exact rowc (List.map_id _) | trivial
        · first | exact True.intro | exact ⟨rfl, rfl⟩ | exact ⟨rfl, rfl, rfl⟩ | rfl | exact rowc (List.map_id _) | trivial
        · first | exact True.intro | exact ⟨rfl, rfl⟩ | exact ⟨rfl, rfl, rfl⟩ | rfl | exact rowc (List.map_id _) | trivial
        · first | exact True.intro | exact ⟨rfl, rfl⟩ | exact ⟨rfl, rfl, rfl⟩ | rfl | exact rowc (List.map_id _) | trivial
      · try refine gr ?_
        rw [q3]
        try refine gr ?_
        refine ⟨p + (dec s p).2, nx, (by omega), fits_of (gr ?_) (gr ?_) (gr ?_) (gr ?_) (gr ?_)⟩
        · first | exact True.intro | exact ⟨rfl, rfl⟩ | exact ⟨rfl, rfl, rfl⟩ | rfl | exact rowc (List.map_id _) | trivial
        · first | exact True.intro | exact ⟨rfl, rfl⟩ | exact ⟨rfl, rfl, rfl⟩ | rfl | exact rowc (List.map_id _) | trivial
        · first | exact True.intro | exact ⟨rfl, rfl⟩ | exact ⟨rfl, rfl, rfl⟩ | rfl | exact rowc (List.map_id _) | trivial
        · first | exact True.intro | exact ⟨rfl, rfl⟩ | exact ⟨rfl, rfl, rfl⟩ | rfl | exact rowc (List.map_id _) | trivial
        · first | exact True.intro | exact ⟨rfl, rfl⟩ | exact ⟨rfl, rfl, rfl⟩ | rfl | exact rowc (List.map_id _) | trivial
  · try refine gr ?_
    trivial
theorem mid_at (s : List UInt8) (a i : Nat) (h : a ≤ i) (hi : i < s.length) : (s.drop a).take (i + 1 - a) = (s.drop a).take (i - a) ++ [s.getD i 0] := by
  have := take_at (s.drop a) (i - a) 0 (by rw [List.length_drop]; omega)
  rw [show i + 1 - a = i - a + 1 by omega, this]
  congr 2
  rw [List.getD_eq_getElem?_getD, List.getD_eq_getElem?_getD, List.getElem?_drop, show a + (i - a) = i by omega]
theorem drop_cut (s : List UInt8) (a i : Nat) (h : a ≤ i) (hi : i < s.length) : s.drop a = (s.drop a).take (i - a) ++ s.getD i 0 :: s.drop (i + 1) := by
  rw [← drop_at s i 0 hi]
  have : s.drop i = (s.drop a).drop (i - a) := by rw [List.drop_drop]; congr 1; omega
  rw [this, List.take_append_drop]
set_option maxHeartbeats 4000000 in
theorem rsplit_ok (s : List UInt8) (hs : s.length ≤ 1000000) : Spec Tryd.prog LL 41 [.s s] (.sl 1 (List UInt8) [] (sp 47 s) .s) := by
  refine spec_of (C := ⟨Tryd.prog, LL, EE, []⟩) (rl := [.sl 1 (List UInt8) [] (sp 47 s) .s]) (rs := [.tmp 2]) CCx LLs Tryd.func41 rfl (by kernel_rfl) rfl (by kernel_rfl) (Nat.le_of_ble_eq_true rfl) (fun i => rfl) (fun i => by first | rfl | exact (Bool.or_false _).trans (eSd_men _ _)) rfl (by decide) ?_
  refine gr ?_
  refine lp_nil 3 9 hS (gr ?_) (gr ?_) ?_
  · trivial
  · trivial
  refine lp_hr [0] [] (fun x : Nat × Nat × List (List UInt8) => [(3, .ow 3 x.2.2.length), (4, .n .i64 (x.2.1 : Int)), (5, .n .i64 (x.1 : Int))]) (fun x : Nat × Nat × List (List UInt8) => [(3, rS x.2.2)]) (fun x : Nat × Nat × List (List UInt8) => x.1 ≤ s.length + 1 ∧ x.2.2.length ≤ x.1 ∧ (x.1 ≤ s.length → x.2.1 ≤ x.1 ∧ x.2.2 ++ sp 47 (s.drop x.2.1) = sp 47 s ∧ 47 ∉ (s.drop x.2.1).take (x.1 - x.2.1)) ∧ (x.1 = s.length + 1 → x.2.2 = sp 47 s)) (fun x : Nat × Nat × List (List UInt8) => s.length + 1 - x.1) ((0, 0, [])) id ⟨Nat.zero_le _, Nat.le_refl _, fun _ => ⟨Nat.le_refl _, by simp, by simp⟩, fun h => by simp at h⟩ (fits_of (gr ?_) (gr ?_) (gr ?_) (gr ?_) (gr ?_)) ?_
  · first | exact True.intro | exact ⟨rfl, rfl⟩ | exact ⟨rfl, rfl, rfl⟩ | rfl | exact rowc (List.map_id _) | trivial
  · first | exact True.intro | exact ⟨rfl, rfl⟩ | exact ⟨rfl, rfl, rfl⟩ | rfl | exact rowc (List.map_id _) | trivial
  · first | exact True.intro | exact ⟨rfl, rfl⟩ | exact ⟨rfl, rfl, rfl⟩ | rfl | exact rowc (List.map_id _) | trivial
  · first | exact True.intro | exact ⟨rfl, rfl⟩ | exact ⟨rfl, rfl, rfl⟩ | rfl | exact rowc (List.map_id _) | trivial
  · first | exact True.intro | exact ⟨rfl, rfl⟩ | exact ⟨rfl, rfl, rfl⟩ | rfl | exact rowc (List.map_id _) | trivial
  rintro ⟨i, a, l⟩ ⟨g1, g2, g3, g4⟩
  dsimp only at g1 g2 g3 g4 ⊢
  try refine gr ?_
  refine br (fun b => ?_) (fun b => ?_)
  · obtain ⟨g5, g6, g7⟩ := g3 (by omega)
    try refine gr ?_
    refine br (fun c => ?_) (fun c => ?_)
    · try refine gr ?_
      refine br (fun d => ?_) (fun d => ?_)
      · have hd : s.getD i 0 = 47 := UInt8.toNat_inj.1 (show by' s i = 47 by omega)
        have hc := drop_cut s a i g5 (by omega)
        rw [hd] at hc
        rw [hc, sp_app g7] at g6
        try refine gr ?_
        refine .inr ?_
        refine ⟨(i + 1, i + 1, l ++ [(s.take i).drop a]), fun i => if i = 3 then 28 else i, ⟨by dsimp only; omega, by simp; omega, fun _ => ⟨Nat.le_refl _, by dsimp only; rw [List.drop_take, List.append_assoc]; exact g6, by simp⟩, fun h => by dsimp only at h; omega⟩, (by dsimp only; omega), fits_of (gr ?_) (gr ?_) (gr ?_) (gr ?_) (gr ?_)⟩
        · first | exact True.intro | exact ⟨rfl, rfl⟩ | exact ⟨rfl, rfl, rfl⟩ | rfl | exact rowc (List.map_id _) | trivial
        · first | exact True.intro | exact ⟨rfl, rfl⟩ | exact ⟨rfl, rfl, rfl⟩ | rfl | exact rowc (List.map_id _) | trivial
        · first | exact True.intro | exact ⟨rfl, rfl⟩ | exact ⟨rfl, rfl, rfl⟩ | rfl | exact rowc (List.map_id _) | trivial
        · first | exact True.intro | exact ⟨rfl, rfl⟩ | exact ⟨rfl, rfl, rfl⟩ | rfl | exact rowc (List.map_id _) | trivial
        · first | exact True.intro | exact ⟨rfl, rfl⟩ | exact ⟨rfl, rfl, rfl⟩ | rfl | exact rowc (List.map_id _) | trivial
      · have hm := mid_at s a i g5 (by omega)
        try refine gr ?_
        refine ⟨(i + 1, a, l), id, ⟨by dsimp only; omega, by dsimp only; omega, fun _ => ⟨by dsimp only; omega, g6, by dsimp only; rw [hm]; simp only [List.mem_append, List.mem_singleton, not_or]; exact ⟨g7, fun e => d (by unfold by'; rw [← e]; rfl)⟩⟩, fun h => by dsimp only at h; omega⟩, (by dsimp only; omega), fits_of (gr ?_) (gr ?_) (gr ?_) (gr ?_) (gr ?_)⟩
        · first | exact True.intro | exact ⟨rfl, rfl⟩ | exact ⟨rfl, rfl, rfl⟩ | rfl | exact rowc (List.map_id _) | trivial
        · first | exact True.intro | exact ⟨rfl, rfl⟩ | exact ⟨rfl, rfl, rfl⟩ | rfl | exact rowc (List.map_id _) | trivial
        · first | exact True.intro | exact ⟨rfl, rfl⟩ | exact ⟨rfl, rfl, rfl⟩ | rfl | exact rowc (List.map_id _) | trivial
        · first | exact True.intro | exact ⟨rfl, rfl⟩ | exact ⟨rfl, rfl, rfl⟩ | rfl | exact rowc (List.map_id _) | trivial
        · first | exact True.intro | exact ⟨rfl, rfl⟩ | exact ⟨rfl, rfl, rfl⟩ | rfl | exact rowc (List.map_id _) | trivial
    · have hi : i = s.length := by omega
      subst hi
      rw [List.take_of_length_le (by rw [List.length_drop]; exact Nat.le_refl _)] at g7
      rw [sp_no g7] at g6
      try refine gr ?_
      refine .inr ?_
      refine ⟨(s.length + 1, s.length + 1, l ++ [(s.take s.length).drop a]), fun i => if i = 3 then 28 else i, ⟨by dsimp only; omega, by simp; omega, fun h => by dsimp only at h; omega, fun _ => by dsimp only; rw [List.take_length]; exact g6⟩, (by dsimp only; omega), fits_of (gr ?_) (gr ?_) (gr ?_) (gr ?_) (gr ?_)⟩
      · first | exact True.intro | exact ⟨rfl, rfl⟩ | exact ⟨rfl, rfl, rfl⟩ | rfl | exact rowc (List.map_id _) | trivial
      · first | exact True.intro | exact ⟨rfl, rfl⟩ | exact ⟨rfl, rfl, rfl⟩ | rfl | exact rowc (List.map_id _) | trivial
      · first | exact True.intro | exact ⟨rfl, rfl⟩ | exact ⟨rfl, rfl, rfl⟩ | rfl | exact rowc (List.map_id _) | trivial
      · first | exact True.intro | exact ⟨rfl, rfl⟩ | exact ⟨rfl, rfl, rfl⟩ | rfl | exact rowc (List.map_id _) | trivial
      · first | exact True.intro | exact ⟨rfl, rfl⟩ | exact ⟨rfl, rfl, rfl⟩ | rfl | exact rowc (List.map_id _) | trivial
  · try refine gr ?_
    rw [g4 (by omega)]
    exact le_refl _
end Go.Proofs.YtgmgbdihonindaaDoor.Ev
namespace Go.Proofs.YtgmgbdihonindaaDoor.Ev
open Go.RowKit
open Go.Proofs.YtgmgbdihonindaaDoor.Mem
set_option linter.unusedVariables false
set_option linter.unusedSimpArgs false
set_option maxRecDepth 100000
theorem parts_of {s : List UInt8} (h : (partsM s).2 = 0) : s.length ≤ 200 ∧ (∀ x ∈ sp 47 s, partB x = true) ∧ (sp 47 s).length ≤ 16 := by
  unfold partsM at h
  split at h
  · cases h
  · split at h
    · cases h
    · rename_i h2
      split at h
      · cases h
      · exact ⟨by omega, List.all_eq_true.1 (Decidable.not_not.1 h2), by omega⟩
theorem rparts_ok (s : List UInt8) (h : (partsM s).2 = 0) : Spec Tryd.prog LL 23 [.s s] (.tp [.sl 1 (List UInt8) [] (sp 47 s) .s, .n .i64 0]) := by
  refine spec_of (C := ⟨Tryd.prog, LL, EE, []⟩) (rl := [.sl 1 (List UInt8) [] (sp 47 s) .s, .n .i64 0]) (rs := [.tmp 2, .tmp 3]) CCx LLs Tryd.func23 rfl (by kernel_rfl) rfl (by kernel_rfl) (Nat.le_of_ble_eq_true rfl) (fun i => rfl) (fun i => by first | rfl | exact (Bool.or_false _).trans (eSd_men _ _)) rfl (by decide) ?_
  refine gr ?_
  obtain ⟨h1, h2, h3⟩ := parts_of h
  refine br (fun a => ?_) (fun a => ?_)
  · exfalso; omega
  · try refine gr ?_
    refine cl (rsplit_ok s (by omega)) ?_
    refine gr ?_
    refine lp_hd [4] [] (fun i : Nat => [(5, .n .i64 (i : Int))]) (fun i : Nat => []) (fun i : Nat => i ≤ (sp 47 s).length) (fun i : Nat => (sp 47 s).length - i) (0) id (id) (Nat.zero_le _) (fits_of (gr ?_) (gr ?_) (gr ?_) (gr ?_) (gr ?_)) ?_
    · first | exact True.intro | exact ⟨rfl, rfl⟩ | exact ⟨rfl, rfl, rfl⟩ | rfl | exact rowc (List.map_id _) | trivial
    · first | exact True.intro | exact ⟨rfl, rfl⟩ | exact ⟨rfl, rfl, rfl⟩ | rfl | exact rowc (List.map_id _) | trivial
    · first | exact True.intro | exact ⟨rfl, rfl⟩ | exact ⟨rfl, rfl, rfl⟩ | rfl | exact rowc (List.map_id _) | trivial
    · first | exact True.intro | exact ⟨rfl, rfl⟩ | exact ⟨rfl, rfl, rfl⟩ | rfl | exact rowc (List.map_id _) | trivial
    · first | exact True.intro | exact ⟨rfl, rfl⟩ | exact ⟨rfl, rfl, rfl⟩ | rfl | exact rowc (List.map_id _) | trivial
    rintro i hi
    try refine gr ?_
    refine br (fun b => ?_) (fun b => ?_)
    · have hm := h2 _ (getD_mem (x := []) (show i < (sp 47 s).length by omega))
      try refine gr ?_
      refine cl (rpart_ok _ hm) ?_
      refine gr ?_
      refine ⟨i + 1, (by omega), (by omega), fits_of (gr ?_) (gr ?_) (gr ?_) (gr ?_) (gr ?_)⟩
      · first | exact True.intro | exact ⟨rfl, rfl⟩ | exact ⟨rfl, rfl, rfl⟩ | rfl | exact rowc (List.map_id _) | trivial
      · first | exact True.intro | exact ⟨rfl, rfl⟩ | exact ⟨rfl, rfl, rfl⟩ | rfl | exact rowc (List.map_id _) | trivial
      · first | exact True.intro | exact ⟨rfl, rfl⟩ | exact ⟨rfl, rfl, rfl⟩ | rfl | exact rowc (List.map_id _) | trivial
      · first | exact True.intro | exact ⟨rfl, rfl⟩ | exact ⟨rfl, rfl, rfl⟩ | rfl | exact rowc (List.map_id _) | trivial
      · first | exact True.intro | exact ⟨rfl, rfl⟩ | exact ⟨rfl, rfl, rfl⟩ | rfl | exact rowc (List.map_id _) | trivial
    · try refine gr ?_
      refine br (fun c => ?_) (fun c => ?_)
      · exfalso; omega
      · try refine gr ?_
        trivial
theorem rown_ok  : Spec Tryd.prog LL 43 [] (.s [46, 104, 111, 108, 100, 97, 108, 108]) := by
  refine spec_of (C := ⟨Tryd.prog, LL, EE, []⟩) (rl := [.s [46, 104, 111, 108, 100, 97, 108, 108]]) (rs := [.tmp 0]) CCx LLs Tryd.func43 rfl (by kernel_rfl) rfl (by kernel_rfl) (Nat.le_of_ble_eq_true rfl) (fun i => rfl) (fun i => by first | rfl | exact (Bool.or_false _).trans (eSd_men _ _)) rfl (by decide) ?_
  refine gr ?_
  trivial
theorem rres_ok (s : List UInt8) (hs : s.length ≤ 1000000) : Spec Tryd.prog LL 24 [.s s] (.b (decide ((sp 47 s).getD 0 [] = [46, 104, 111, 108, 100, 97, 108, 108]))) := by
  refine spec_of (C := ⟨Tryd.prog, LL, EE, []⟩) (rl := [.b (decide ((sp 47 s).getD 0 [] = [46, 104, 111, 108, 100, 97, 108, 108]))]) (rs := [.tmp 2]) CCx LLs Tryd.func24 rfl (by kernel_rfl) rfl (by kernel_rfl) (Nat.le_of_ble_eq_true rfl) (fun i => rfl) (fun i => by first | rfl | exact (Bool.or_false _).trans (eSd_men _ _)) rfl (by decide) ?_
  refine gr ?_
  refine cd (rsplit_ok s hs) ?_
  refine gr ?_
  have := sp_pos 47 s
  refine ⟨by omega, ?_⟩
  refine cd (rown_ok) ?_
  refine gr ?_
  trivial
theorem rdir_ok (l : List Ent) (p : List UInt8) (hl : l.length ≤ 100000000000000) : Spec Tryd.prog LL 12 [.sl 5 Ent dE l eEnt, .s p] (.b (dirB l p)) := by
  refine spec_of (C := ⟨Tryd.prog, LL, EE, []⟩) (rl := [.b (dirB l p)]) (rs := [.tmp 4]) CCx LLs Tryd.func12 rfl (by kernel_rfl) rfl (by kernel_rfl) (Nat.le_of_ble_eq_true rfl) (fun i => rfl) (fun i => by first | rfl | exact (Bool.or_false _).trans (eSd_men _ _)) rfl (by decide) ?_
  refine gr ?_
  refine lp_hd [0, 1] [] (fun i : Nat => [(5, .n .i64 (i : Int))]) (fun i : Nat => []) (fun i : Nat => i ≤ l.length ∧ dirB l p = dirB (l.drop i) p) (fun i : Nat => l.length - i) (0) id (id) ⟨Nat.zero_le _, rfl⟩ (fits_of (gr ?_) (gr ?_) (gr ?_) (gr ?_) (gr ?_)) ?_
  · first | exact True.intro | exact ⟨rfl, rfl⟩ | exact ⟨rfl, rfl, rfl⟩ | rfl | exact rowc (List.map_id _) | trivial
  · first | exact True.intro | exact ⟨rfl, rfl⟩ | exact ⟨rfl, rfl, rfl⟩ | rfl | exact rowc (List.map_id _) | trivial
  · first | exact True.intro | exact ⟨rfl, rfl⟩ | exact ⟨rfl, rfl, rfl⟩ | rfl | exact rowc (List.map_id _) | trivial
  · first | exact True.intro | exact ⟨rfl, rfl⟩ | exact ⟨rfl, rfl, rfl⟩ | rfl | exact rowc (List.map_id _) | trivial
  · first | exact True.intro | exact ⟨rfl, rfl⟩ | exact ⟨rfl, rfl, rfl⟩ | rfl | exact rowc (List.map_id _) | trivial
  rintro i ⟨hi, hr⟩
  try refine gr ?_
  refine br (fun e => ?_) (fun e => ?_)
  · have hd := drop_at l i dE (by omega)
    have hh : dirB (l.drop i) p = (decide ((l.getD i dE).path = p) && decide ((l.getD i dE).kind = 2) || dirB (l.drop (i + 1)) p) := by rw [hd]; rfl
    rw [hh] at hr
    clear hh hd
    try refine gr ?_
    refine br (fun c => ?_) (fun c => ?_)
    · try refine gr ?_
      refine br (fun d => ?_) (fun d => ?_)
      · try refine gr ?_
        rw [hr, decide_eq_true c, decide_eq_true d]
        rfl
      · try refine gr ?_
        refine ⟨i + 1, ⟨by omega, by rw [hr, decide_eq_false d, Bool.and_false, Bool.false_or]⟩, (by omega), fits_of (gr ?_) (gr ?_) (gr ?_) (gr ?_) (gr ?_)⟩
        · first | exact True.intro | exact ⟨rfl, rfl⟩ | exact ⟨rfl, rfl, rfl⟩ | rfl | exact rowc (List.map_id _) | trivial
        · first | exact True.intro | exact ⟨rfl, rfl⟩ | exact ⟨rfl, rfl, rfl⟩ | rfl | exact rowc (List.map_id _) | trivial
        · first | exact True.intro | exact ⟨rfl, rfl⟩ | exact ⟨rfl, rfl, rfl⟩ | rfl | exact rowc (List.map_id _) | trivial
        · first | exact True.intro | exact ⟨rfl, rfl⟩ | exact ⟨rfl, rfl, rfl⟩ | rfl | exact rowc (List.map_id _) | trivial
        · first | exact True.intro | exact ⟨rfl, rfl⟩ | exact ⟨rfl, rfl, rfl⟩ | rfl | exact rowc (List.map_id _) | trivial
    · try refine gr ?_
      refine ⟨i + 1, ⟨by omega, by rw [hr, decide_eq_false c, Bool.false_and, Bool.false_or]⟩, (by omega), fits_of (gr ?_) (gr ?_) (gr ?_) (gr ?_) (gr ?_)⟩
      · first | exact True.intro | exact ⟨rfl, rfl⟩ | exact ⟨rfl, rfl, rfl⟩ | rfl | exact rowc (List.map_id _) | trivial
      · first | exact True.intro | exact ⟨rfl, rfl⟩ | exact ⟨rfl, rfl, rfl⟩ | rfl | exact rowc (List.map_id _) | trivial
      · first | exact True.intro | exact ⟨rfl, rfl⟩ | exact ⟨rfl, rfl, rfl⟩ | rfl | exact rowc (List.map_id _) | trivial
      · first | exact True.intro | exact ⟨rfl, rfl⟩ | exact ⟨rfl, rfl, rfl⟩ | rfl | exact rowc (List.map_id _) | trivial
      · first | exact True.intro | exact ⟨rfl, rfl⟩ | exact ⟨rfl, rfl, rfl⟩ | rfl | exact rowc (List.map_id _) | trivial
  · try refine gr ?_
    rw [hr, List.drop_eq_nil_of_le (by omega)]
    rfl
theorem EntOk.zero {x : Ent} (h : EntOk x) : x.kind = 2 ∨ x.kind = 3 → x.sum = [] := fun hk => List.length_eq_zero_iff.1 (by
  have h1 := h.s
  have : sizeM x.kind = 0 := if_neg (by omega)
  omega)
theorem EntOk.full {x : Ent} (h : EntOk x) : x.kind = 1 ∨ x.kind = 5 → x.sum.length = 32 := fun hk => by
  have h1 := h.s
  have : sizeM x.kind = 32 := if_pos hk
  omega
set_option maxHeartbeats 4000000 in
theorem rentry_ok (x : Ent) (h : EntOk x) (hr : (sp 47 x.path).getD 0 [] ≠ [46, 104, 111, 108, 100, 97, 108, 108]) : Spec Tryd.prog LL 11 [eEnt x] (.n .i64 0) := by
  refine spec_of (C := ⟨Tryd.prog, LL, EE, []⟩) (rl := [.n .i64 0]) (rs := [.tmp 2]) CCx LLs Tryd.func11 rfl (by kernel_rfl) rfl (by kernel_rfl) (Nat.le_of_ble_eq_true rfl) (fun i => rfl) (fun i => by first | rfl | exact (Bool.or_false _).trans (eSd_men _ _)) rfl (by decide) ?_
  refine gr ?_
  have hm := h.m
  have hz := h.zero
  have hf := h.full
  have hl := h.l
  have ht := h.t
  have hk := h.k
  have hp := parts_of h.p
  unfold knd at hk
  obtain ⟨k, md, sm, pt, tg⟩ := x
  dsimp only at hm hz hf hl ht hk hp hr
  refine cl (rparts_ok pt h.p) ?_
  refine gr ?_
  rcases hk with rfl | rfl | rfl | rfl
  · have ht := ht (by decide)
    subst ht
    have hf := hf (.inl rfl)
    try refine gr ?_
    refine cl (rres_ok pt (by omega)) ?_
    refine gr ?_
    rw [decide_eq_false hr]
    repeat' (first | exact True.intro | (exfalso; omega) | (exact absurd (by assumption) hr) | refine br (fun h => ?_) (fun h => ?_) | refine gr ?_)
  · have ht := ht (by decide)
    subst ht
    have hf := hf (.inr rfl)
    try refine gr ?_
    refine cl (rres_ok pt (by omega)) ?_
    refine gr ?_
    rw [decide_eq_false hr]
    repeat' (first | exact True.intro | (exfalso; omega) | (exact absurd (by assumption) hr) | refine br (fun h => ?_) (fun h => ?_) | refine gr ?_)
  · have ht := ht (by decide)
    subst ht
    have hz := hz (.inl rfl)
    subst hz
    try refine gr ?_
    refine cl (rres_ok pt (by omega)) ?_
    refine gr ?_
    rw [decide_eq_false hr]
    repeat' (first | exact True.intro | (exfalso; omega) | (exact absurd (by assumption) hr) | refine br (fun h => ?_) (fun h => ?_) | refine gr ?_)
  · have hz := hz (.inr rfl)
    subst hz
    obtain ⟨hl, hg⟩ := hl rfl
    subst hl
    try refine gr ?_
    refine cl (rres_ok pt (by omega)) ?_
    refine gr ?_
    rw [decide_eq_false hr]
    repeat' (first | exact True.intro | (exfalso; omega) | (exact absurd (by assumption) hr) | refine cl (rtarget_ok tg hg) (gr ?_) | refine br (fun h => ?_) (fun h => ?_) | refine gr ?_)
end Go.Proofs.YtgmgbdihonindaaDoor.Ev
namespace Go.Proofs.YtgmgbdihonindaaDoor.Ev
open Go.RowKit
open Go.Proofs.YtgmgbdihonindaaDoor.Mem
set_option linter.unusedVariables false
set_option linter.unusedSimpArgs false
set_option maxRecDepth 100000
theorem ib_ge (c : UInt8) : ∀ s : List UInt8, -1 ≤ Lib.indexByte s c
  | [] => by show (-1 : Int) ≤ -1; omega
  | x :: r => by
    have ih := ib_ge c r
    by_cases e : x = c
    · have : Lib.indexByte (x :: r) c = 0 := by unfold Lib.indexByte; rw [e]; simp
      rw [this]; omega
    · rw [ibn c x r e]
      split <;> omega
def cutI (s : List UInt8) (c : UInt8) : List UInt8 := if 0 ≤ Lib.indexByte s c then s.take (Lib.indexByte s c).toNat else s
theorem cutI_sp (c : UInt8) : ∀ s : List UInt8, cutI s c = (sp c s).getD 0 []
  | [] => rfl
  | x :: r => by
    have ih := cutI_sp c r
    unfold sp
    by_cases e : x = c
    · rw [if_pos e, List.getD_cons_zero]
      unfold cutI
      have : Lib.indexByte (x :: r) c = 0 := by unfold Lib.indexByte; rw [e]; simp
      rw [this]
      rfl
    · rw [if_neg e, List.getD_cons_zero]
      have hh : (sp c r).headD [] = cutI r c := by rw [ih]; cases sp c r <;> rfl
      rw [hh]
      unfold cutI
      rw [ibn c x r e]
      have hb := ib_ge c r
      by_cases h : Lib.indexByte r c = -1
      · rw [if_pos h, h]; rfl
      · rw [if_neg h, if_pos (by omega), if_pos (by omega), show (Lib.indexByte r c + 1).toNat = (Lib.indexByte r c).toNat + 1 by omega]
        rfl
theorem cut_sp (s : List UInt8) (c : UInt8) : (Lib.cut s [c]).1 = (sp c s).getD 0 [] := by
  rw [← cutI_sp]
  unfold Lib.cut cutI
  rw [Lib.index_one]
  split <;> rfl
theorem EntOk.own {x : Ent} (h : EntOk x) : (sp 47 x.path).getD 0 [] ≠ [46, 104, 111, 108, 100, 97, 108, 108] := by
  have := h.r
  unfold resB at this
  rw [cut_sp] at this
  exact of_decide_eq_false this
def lastS (s : List UInt8) : Nat → Nat
  | 0 => s.length
  | k + 1 => if by' s k = 47 then k else lastS s k
theorem lastS_spec (s : List UInt8) : ∀ k, k ≤ s.length → (lastS s k = s.length ∧ ∀ j, j < k → ¬ by' s j = 47) ∨ ∃ i, i < k ∧ lastS s k = i ∧ by' s i = 47 ∧ ∀ j, i < j → j < k → ¬ by' s j = 47
  | 0, _ => .inl ⟨rfl, fun j h => by omega⟩
  | k + 1, h => by
    unfold lastS
    by_cases e : by' s k = 47
    · rw [if_pos e]
      exact .inr ⟨k, by omega, rfl, e, fun j h1 h2 => by omega⟩
    · rw [if_neg e]
      rcases lastS_spec s k (by omega) with ⟨h1, h2⟩ | ⟨i, h1, h2, h3, h4⟩
      · exact .inl ⟨h1, fun j hj => by
          rcases Nat.lt_or_ge j k with h | h
          · exact h2 j h
          · rw [show j = k by omega]; exact e⟩
      · exact .inr ⟨i, by omega, h2, h3, fun j h5 h6 => by
          rcases Nat.lt_or_ge j k with h | h
          · exact h4 j h5 h
          · rw [show j = k by omega]; exact e⟩
theorem last_parent {s : List UInt8} (h : lastS s s.length < s.length) : parentM s = s.take (lastS s s.length) := by
  rcases lastS_spec s s.length (Nat.le_refl _) with ⟨h1, _⟩ | ⟨i, h1, h2, h3, h4⟩
  · omega
  · have gb : ∀ j, (((tx s).data[j]!).toNat : Int) = (by' s j : Nat) := fun j => congrArg Int.ofNat (get_by s j)
    rcases Lib.lastIndexByte_spec (tx s) 47 with ⟨g1, g2⟩ | ⟨k, g1, g2, g3, g4⟩
    · have := g2 i (by rw [tx_size]; exact h1)
      rw [gb, h3] at this
      exact absurd rfl this
    · rw [tx_size] at g1 g4
      rw [gb] at g3
      have : k = i := by
        rcases Nat.lt_trichotomy k i with hk | hk | hk
        · have := g4 i hk h1
          rw [gb, h3] at this
          exact absurd rfl this
        · exact hk
        · exact absurd (show by' s k = 47 by omega) (h4 k hk g1)
      unfold parentM
      rw [if_neg (by rw [g2]; omega), g2, h2, this]
      rfl
theorem last_ne {s : List UInt8} (h : (partsM s).2 = 0) (hl : lastS s s.length < s.length) : parentM s ≠ [] := by
  rw [last_parent hl]
  obtain ⟨_, hp, _⟩ := parts_of h
  rcases lastS_spec s s.length (Nat.le_refl _) with ⟨h1, _⟩ | ⟨i, h1, h2, h3, h4⟩
  · omega
  · rw [h2]
    intro e
    have hi : i = 0 := by
      have := congrArg List.length e
      rw [List.length_take, List.length_nil] at this
      omega
    subst hi
    cases s with
    | nil => simp at h1
    | cons x r =>
      have hx : x = 47 := UInt8.toNat_inj.1 h3
      have := hp [] (by unfold sp; rw [if_pos hx]; simp)
      exact absurd this (by decide)
theorem entF_ok {l : List Ent} {i : Nat} (h : entF l i = 0) : (0 < i → lt' (l.getD (i - 1) dE).path (l.getD i dE).path = true) ∧ (parentM (l.getD i dE).path ≠ [] → dirB (l.take i) (parentM (l.getD i dE).path) = true) := by
  unfold entF at h
  split at h
  · rename_i h1; exact absurd h h1
  · split at h
    · cases h
    · rename_i h2
      split at h
      · cases h
      · rename_i h3
        refine ⟨fun hi => ?_, fun hp => ?_⟩
        · cases e : lt' (l.getD (i - 1) dE).path (l.getD i dE).path with
          | true => rfl
          | false => exact absurd ⟨hi, e⟩ h2
        · cases e : dirB (l.take i) (parentM (l.getD i dE).path) with
          | true => rfl
          | false => exact absurd ⟨hp, e⟩ h3
theorem parseM_none {s : List UInt8} (h : ¬ (parseM s).2 = 0) : (parseM s).1 = dM := by
  unfold parseM at h ⊢
  (repeat' split) <;> first | rfl | (exfalso; simp_all; done) | (simp_all; omega)
set_option maxHeartbeats 4000000 in
theorem safe_ok (s : List UInt8) (hs : s.length ≤ 9223372036854775807) : Spec Tryd.prog LL 4 [.s s] (.b true) := by
  refine spec_of (C := ⟨Tryd.prog, LL, EE, []⟩) (rl := [.b true]) (rs := [.tmp 2]) CCx LLs Tryd.func4 rfl (by kernel_rfl) rfl (by kernel_rfl) (Nat.le_of_ble_eq_true rfl) (fun i => rfl) (fun i => by first | rfl | exact (Bool.or_false _).trans (eSd_men _ _)) rfl (by decide) ?_
  refine gr ?_
  refine br (fun a => ?_) (fun a => ?_)
  · try refine gr ?_
    refine cl (awake_ok) ?_
    refine gr ?_
    trivial
  · try refine gr ?_
    refine cl (parse_ok s hs) ?_
    refine gr ?_
    by_cases e : (parseM s).2 = 0
    · have hk := ManOk.of (parseM_back e).1
      generalize parseM s = pm at e hk ⊢
      obtain ⟨m, e'⟩ := pm
      dsimp only at e hk ⊢
      subst e
      have hel := hk.el
      have hes := hk.es
      try refine gr ?_
      refine lp_hd [3] [3] (fun i : Nat => [(5, .n .i64 (i : Int))]) (fun i : Nat => []) (fun i : Nat => i ≤ m.ents.length) (fun i : Nat => m.ents.length - i) (0) id (id) (Nat.zero_le _) (fits_of (gr ?_) (gr ?_) (gr ?_) (gr ?_) (gr ?_)) ?_
      · first | exact True.intro | exact ⟨rfl, rfl⟩ | exact ⟨rfl, rfl, rfl⟩ | rfl | exact rowc (List.map_id _) | trivial
      · first | exact True.intro | exact ⟨rfl, rfl⟩ | exact ⟨rfl, rfl, rfl⟩ | rfl | exact rowc (List.map_id _) | trivial
      · first | exact True.intro | exact ⟨rfl, rfl⟩ | exact ⟨rfl, rfl, rfl⟩ | rfl | exact rowc (List.map_id _) | trivial
      · first | exact True.intro | exact ⟨rfl, rfl⟩ | exact ⟨rfl, rfl, rfl⟩ | rfl | exact rowc (List.map_id _) | trivial
      · first | exact True.intro | exact ⟨rfl, rfl⟩ | exact ⟨rfl, rfl, rfl⟩ | rfl | exact rowc (List.map_id _) | trivial
      rintro i hi
      try refine gr ?_
      refine br (fun b => ?_) (fun b => ?_)
      · have hx := hk.ents _ (getD_mem (x := dE) (show i < m.ents.length by omega))
        obtain ⟨f1, f2⟩ := entF_ok (entsM_all hes i (by omega))
        try refine gr ?_
        generalize m.ents.getD i dE = x at hx f1 f2 ⊢
        have hxp := (parts_of hx.p).1
        refine cd (rentry_ok x hx hx.own) ?_
        refine gr ?_
        refine br (fun c => ?_) (fun c => ?_)
        · have f1 := f1 (by omega)
          try refine gr ?_
          rw [show ((i : Int) - 1).toNat = i - 1 by omega]
          refine br (fun c2 => ?_) (fun c2 => ?_)
          · rw [f1] at c2
            cases c2
          · try refine gr ?_
            refine lp_hd [3, 5, 6] [3, 6] (fun k : Nat => [(7, .n .i64 (lastS x.path k : Nat)), (8, .n .i64 (k : Int))]) (fun k : Nat => []) (fun k : Nat => k ≤ x.path.length) (fun k : Nat => x.path.length - k) (0) id (id) (Nat.zero_le _) (fits_of (gr ?_) (gr ?_) (gr ?_) (gr ?_) (gr ?_)) ?_
            · first | exact True.intro | exact ⟨rfl, rfl⟩ | exact ⟨rfl, rfl, rfl⟩ | rfl | exact rowc (List.map_id _) | trivial
            · first | exact True.intro | exact ⟨rfl, rfl⟩ | exact ⟨rfl, rfl, rfl⟩ | rfl | exact rowc (List.map_id _) | trivial
            · first | exact True.intro | exact ⟨rfl, rfl⟩ | exact ⟨rfl, rfl, rfl⟩ | rfl | exact rowc (List.map_id _) | trivial
            · first | exact True.intro | exact ⟨rfl, rfl⟩ | exact ⟨rfl, rfl, rfl⟩ | rfl | exact rowc (List.map_id _) | trivial
            · first | exact True.intro | exact ⟨rfl, rfl⟩ | exact ⟨rfl, rfl, rfl⟩ | rfl | exact rowc (List.map_id _) | trivial
            rintro k hk2
            try refine gr ?_
            refine br (fun g => ?_) (fun g => ?_)
            · try refine gr ?_
              refine br (fun g2 => ?_) (fun g2 => ?_)
              · have hls : lastS x.path (k + 1) = k := if_pos (by omega)
                try refine gr ?_
                refine ⟨k + 1, (by omega), (by omega), fits_of (gr ?_) (gr ?_) (gr ?_) (gr ?_) (gr ?_)⟩
                · first | exact True.intro | exact ⟨rfl, rfl⟩ | exact ⟨rfl, rfl, rfl⟩ | rfl | exact rowc (List.map_id _) | trivial
                · (rw [hls]; exact ⟨rfl, rfl⟩)
                · first | exact True.intro | exact ⟨rfl, rfl⟩ | exact ⟨rfl, rfl, rfl⟩ | rfl | exact rowc (List.map_id _) | trivial
                · first | exact True.intro | exact ⟨rfl, rfl⟩ | exact ⟨rfl, rfl, rfl⟩ | rfl | exact rowc (List.map_id _) | trivial
                · first | exact True.intro | exact ⟨rfl, rfl⟩ | exact ⟨rfl, rfl, rfl⟩ | rfl | exact rowc (List.map_id _) | trivial
              · have hls : lastS x.path (k + 1) = lastS x.path k := if_neg (by omega)
                try refine gr ?_
                refine ⟨k + 1, (by omega), (by omega), fits_of (gr ?_) (gr ?_) (gr ?_) (gr ?_) (gr ?_)⟩
                · first | exact True.intro | exact ⟨rfl, rfl⟩ | exact ⟨rfl, rfl, rfl⟩ | rfl | exact rowc (List.map_id _) | trivial
                · (rw [hls]; exact ⟨rfl, rfl⟩)
                · first | exact True.intro | exact ⟨rfl, rfl⟩ | exact ⟨rfl, rfl, rfl⟩ | rfl | exact rowc (List.map_id _) | trivial
                · first | exact True.intro | exact ⟨rfl, rfl⟩ | exact ⟨rfl, rfl, rfl⟩ | rfl | exact rowc (List.map_id _) | trivial
                · first | exact True.intro | exact ⟨rfl, rfl⟩ | exact ⟨rfl, rfl, rfl⟩ | rfl | exact rowc (List.map_id _) | trivial
            · have hkl : k = x.path.length := by omega
              subst hkl
              try refine gr ?_
              refine br (fun q => ?_) (fun q => ?_)
              · have hpn := last_ne hx.p (by omega)
                have hpp := last_parent (s := x.path) (by omega)
                have hd := f2 hpn
                rw [hpp] at hd
                try refine gr ?_
                refine cd (rdir_ok (m.ents.take i) (x.path.take (lastS x.path x.path.length)) (by rw [List.length_take]; omega)) ?_
                refine gr ?_
                rw [hd]
                try refine gr ?_
                refine ⟨i + 1, (by omega), (by omega), fits_of (gr ?_) (gr ?_) (gr ?_) (gr ?_) (gr ?_)⟩
                · first | exact True.intro | exact ⟨rfl, rfl⟩ | exact ⟨rfl, rfl, rfl⟩ | rfl | exact rowc (List.map_id _) | trivial
                · first | exact True.intro | exact ⟨rfl, rfl⟩ | exact ⟨rfl, rfl, rfl⟩ | rfl | exact rowc (List.map_id _) | trivial
                · first | exact True.intro | exact ⟨rfl, rfl⟩ | exact ⟨rfl, rfl, rfl⟩ | rfl | exact rowc (List.map_id _) | trivial
                · first | exact True.intro | exact ⟨rfl, rfl⟩ | exact ⟨rfl, rfl, rfl⟩ | rfl | exact rowc (List.map_id _) | trivial
                · first | exact True.intro | exact ⟨rfl, rfl⟩ | exact ⟨rfl, rfl, rfl⟩ | rfl | exact rowc (List.map_id _) | trivial
              · try refine gr ?_
                refine ⟨i + 1, (by omega), (by omega), fits_of (gr ?_) (gr ?_) (gr ?_) (gr ?_) (gr ?_)⟩
                · first | exact True.intro | exact ⟨rfl, rfl⟩ | exact ⟨rfl, rfl, rfl⟩ | rfl | exact rowc (List.map_id _) | trivial
                · first | exact True.intro | exact ⟨rfl, rfl⟩ | exact ⟨rfl, rfl, rfl⟩ | rfl | exact rowc (List.map_id _) | trivial
                · first | exact True.intro | exact ⟨rfl, rfl⟩ | exact ⟨rfl, rfl, rfl⟩ | rfl | exact rowc (List.map_id _) | trivial
                · first | exact True.intro | exact ⟨rfl, rfl⟩ | exact ⟨rfl, rfl, rfl⟩ | rfl | exact rowc (List.map_id _) | trivial
                · first | exact True.intro | exact ⟨rfl, rfl⟩ | exact ⟨rfl, rfl, rfl⟩ | rfl | exact rowc (List.map_id _) | trivial
        · try refine gr ?_
          refine lp_hd [3, 5, 6] [3, 6] (fun k : Nat => [(7, .n .i64 (lastS x.path k : Nat)), (8, .n .i64 (k : Int))]) (fun k : Nat => []) (fun k : Nat => k ≤ x.path.length) (fun k : Nat => x.path.length - k) (0) id (id) (Nat.zero_le _) (fits_of (gr ?_) (gr ?_) (gr ?_) (gr ?_) (gr ?_)) ?_
          · first | exact True.intro | exact ⟨rfl, rfl⟩ | exact ⟨rfl, rfl, rfl⟩ | rfl | exact rowc (List.map_id _) | trivial
          · first | exact True.intro | exact ⟨rfl, rfl⟩ | exact ⟨rfl, rfl, rfl⟩ | rfl | exact rowc (List.map_id _) | trivial
          · first | exact True.intro | exact ⟨rfl, rfl⟩ | exact ⟨rfl, rfl, rfl⟩ | rfl | exact rowc (List.map_id _) | trivial
          · first | exact True.intro | exact ⟨rfl, rfl⟩ | exact ⟨rfl, rfl, rfl⟩ | rfl | exact rowc (List.map_id _) | trivial
          · first | exact True.intro | exact ⟨rfl, rfl⟩ | exact ⟨rfl, rfl, rfl⟩ | rfl | exact rowc (List.map_id _) | trivial
          rintro k hk2
          try refine gr ?_
          refine br (fun g => ?_) (fun g => ?_)
          · try refine gr ?_
            refine br (fun g2 => ?_) (fun g2 => ?_)
            · have hls : lastS x.path (k + 1) = k := if_pos (by omega)
              try refine gr ?_
              refine ⟨k + 1, (by omega), (by omega), fits_of (gr ?_) (gr ?_) (gr ?_) (gr ?_) (gr ?_)⟩
              · first | exact True.intro | exact ⟨rfl, rfl⟩ | exact ⟨rfl, rfl, rfl⟩ | rfl | exact rowc (List.map_id _) | trivial
              · (rw [hls]; exact ⟨rfl, rfl⟩)
              · first | exact True.intro | exact ⟨rfl, rfl⟩ | exact ⟨rfl, rfl, rfl⟩ | rfl | exact rowc (List.map_id _) | trivial
              · first | exact True.intro | exact ⟨rfl, rfl⟩ | exact ⟨rfl, rfl, rfl⟩ | rfl | exact rowc (List.map_id _) | trivial
              · first | exact True.intro | exact ⟨rfl, rfl⟩ | exact ⟨rfl, rfl, rfl⟩ | rfl | exact rowc (List.map_id _) | trivial
            · have hls : lastS x.path (k + 1) = lastS x.path k := if_neg (by omega)
              try refine gr ?_
              refine ⟨k + 1, (by omega), (by omega), fits_of (gr ?_) (gr ?_) (gr ?_) (gr ?_) (gr ?_)⟩
              · first | exact True.intro | exact ⟨rfl, rfl⟩ | exact ⟨rfl, rfl, rfl⟩ | rfl | exact rowc (List.map_id _) | trivial
              · (rw [hls]; exact ⟨rfl, rfl⟩)
              · first | exact True.intro | exact ⟨rfl, rfl⟩ | exact ⟨rfl, rfl, rfl⟩ | rfl | exact rowc (List.map_id _) | trivial
              · first | exact True.intro | exact ⟨rfl, rfl⟩ | exact ⟨rfl, rfl, rfl⟩ | rfl | exact rowc (List.map_id _) | trivial
              · first | exact True.intro | exact ⟨rfl, rfl⟩ | exact ⟨rfl, rfl, rfl⟩ | rfl | exact rowc (List.map_id _) | trivial
          · have hkl : k = x.path.length := by omega
            subst hkl
            try refine gr ?_
            refine br (fun q => ?_) (fun q => ?_)
            · have hpn := last_ne hx.p (by omega)
              have hpp := last_parent (s := x.path) (by omega)
              have hd := f2 hpn
              rw [hpp] at hd
              try refine gr ?_
              refine cd (rdir_ok (m.ents.take i) (x.path.take (lastS x.path x.path.length)) (by rw [List.length_take]; omega)) ?_
              refine gr ?_
              rw [hd]
              try refine gr ?_
              refine ⟨i + 1, (by omega), (by omega), fits_of (gr ?_) (gr ?_) (gr ?_) (gr ?_) (gr ?_)⟩
              · first | exact True.intro | exact ⟨rfl, rfl⟩ | exact ⟨rfl, rfl, rfl⟩ | rfl | exact rowc (List.map_id _) | trivial
              · first | exact True.intro | exact ⟨rfl, rfl⟩ | exact ⟨rfl, rfl, rfl⟩ | rfl | exact rowc (List.map_id _) | trivial
              · first | exact True.intro | exact ⟨rfl, rfl⟩ | exact ⟨rfl, rfl, rfl⟩ | rfl | exact rowc (List.map_id _) | trivial
              · first | exact True.intro | exact ⟨rfl, rfl⟩ | exact ⟨rfl, rfl, rfl⟩ | rfl | exact rowc (List.map_id _) | trivial
              · first | exact True.intro | exact ⟨rfl, rfl⟩ | exact ⟨rfl, rfl, rfl⟩ | rfl | exact rowc (List.map_id _) | trivial
            · try refine gr ?_
              refine ⟨i + 1, (by omega), (by omega), fits_of (gr ?_) (gr ?_) (gr ?_) (gr ?_) (gr ?_)⟩
              · first | exact True.intro | exact ⟨rfl, rfl⟩ | exact ⟨rfl, rfl, rfl⟩ | rfl | exact rowc (List.map_id _) | trivial
              · first | exact True.intro | exact ⟨rfl, rfl⟩ | exact ⟨rfl, rfl, rfl⟩ | rfl | exact rowc (List.map_id _) | trivial
              · first | exact True.intro | exact ⟨rfl, rfl⟩ | exact ⟨rfl, rfl, rfl⟩ | rfl | exact rowc (List.map_id _) | trivial
              · first | exact True.intro | exact ⟨rfl, rfl⟩ | exact ⟨rfl, rfl, rfl⟩ | rfl | exact rowc (List.map_id _) | trivial
              · first | exact True.intro | exact ⟨rfl, rfl⟩ | exact ⟨rfl, rfl, rfl⟩ | rfl | exact rowc (List.map_id _) | trivial
      · try refine gr ?_
        refine cl (awake_ok) ?_
        refine gr ?_
        trivial
    · rw [parseM_none e]
      try refine gr ?_
      refine br (fun b => ?_) (fun b => ?_)
      · refine cl (awake_ok) ?_
        refine gr ?_
        refine cln (same_ok dM dM_fit) (gr ?_) ?_
        · repeat' apply And.intro
          all_goals first | exact le_refl _ | exact le_nl | trivial
        try refine gr ?_
        trivial
      · exact absurd e b
end Go.Proofs.YtgmgbdihonindaaDoor.Ev
