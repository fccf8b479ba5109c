/- The document's names, versions, rules. -/
import Derived.Test.YtjbnmeofjiokeaaGreatDoorVA
set_option linter.all false
namespace Go.Proofs.YtjbnmeofjiokeaaGreatDoor.Ev
open Go.RowKit
open Go.Proofs.YtjbnmeofjiokeaaGreatDoor.Mem
set_option linter.unusedVariables false
set_option linter.unusedSimpArgs false
set_option maxRecDepth 100000
theorem nmark_b : ∀ b, b < 256 → markB nmarks b = decide ((48 ≤ b ∧ b ≤ 57) ∨ b = 45 ∨ b = 43 ∨ b = 46 ∨ b = 95) := by decide
theorem vmark_lo : ∀ b, b < 128 → markB vmarks b = decide (b = 46 ∨ b = 45 ∨ b = 43 ∨ b = 126 ∨ b = 95) := by decide
theorem vmark_r (r : Nat) : markB vmarks r = decide (r = 46 ∨ r = 45 ∨ r = 43 ∨ r = 126 ∨ r = 95) := by
  rcases Nat.lt_or_ge r 128 with h | h
  · exact vmark_lo r h
  · rw [decide_eq_false (by omega)]
    simp [markB]; omega
theorem okn_iff {i b : Nat} (hb : b < 256) : okn i b = true ↔ (97 ≤ b ∧ b ≤ 122) ∨ (¬ i = 0 ∧ ((48 ≤ b ∧ b ≤ 57) ∨ b = 45 ∨ b = 43 ∨ b = 46 ∨ b = 95)) := by
  unfold okn lowN
  rw [nmark_b b hb]
  simp only [Bool.or_eq_true, Bool.and_eq_true, decide_eq_true_eq, ne_eq]
theorem okv_iff {i r : Nat} : okv i r = true ↔ ((48 ≤ r ∧ r ≤ 57) ∨ (97 ≤ r ∧ r ≤ 122) ∨ (65 ≤ r ∧ r ≤ 90)) ∨ (¬ i = 0 ∧ (r = 46 ∨ r = 45 ∨ r = 43 ∨ r = 126 ∨ r = 95)) := by
  unfold okv digN letN
  rw [vmark_r r]
  simp only [Bool.or_eq_true, Bool.and_eq_true, decide_eq_true_eq, ne_eq]
  try omega
theorem allI_step {f : Nat → Nat → Bool} {s : List UInt8} {p : Nat} (h : allI f s p = true) (h1 : f p (by' s p) = true) : allI f s (p + 1) = true := allI_iff.2 fun i hi => by
  rcases Nat.lt_or_ge i p with h3 | h3
  · exact allI_iff.1 h i h3
  · rw [show i = p by omega]; exact h1
set_option maxHeartbeats 8000000 in
theorem rname_ok (s : List UInt8) : Spec Tryz.prog LL 26 [.s s] (.b (nameB s)) := by
  refine spec_of (C := ⟨Tryz.prog, LL, EE, []⟩) (rl := [.b (nameB s)]) (rs := [.tmp 2]) CCx LLs Tryz.func26 rfl (by kernel_rfl) rfl (by kernel_rfl) (Nat.le_of_ble_eq_true rfl) (fun i => rfl) (fun i => by first | rfl | exact (Bool.or_false _).trans (eSd_men _ _)) rfl (by decide) ?_
  refine gr ?_
  refine br (fun a => ?_) (fun a => ?_)
  · try refine gr ?_
    refine br (fun b => ?_) (fun b => ?_)
    · try refine gr ?_
      simp [nameB]; omega
    · try refine gr ?_
      refine lp_hd [0] [] (fun p : Nat => [(3, .n .i64 (p : Int))]) (fun p : Nat => []) (fun p : Nat => p ≤ s.length ∧ allI okn s p = true) (fun p : Nat => s.length - p) (0) id (id) ⟨Nat.zero_le _, rfl⟩ (fits_of (gr ?_) (gr ?_) (gr ?_) (gr ?_) (gr ?_)) ?_
      · first | exact True.intro | exact ⟨rfl, rfl⟩ | exact ⟨rfl, rfl, rfl⟩ | rfl | exact rowc (List.map_id _) | trivial
      · first | exact True.intro | exact ⟨rfl, rfl⟩ | exact ⟨rfl, rfl, rfl⟩ | rfl | exact rowc (List.map_id _) | trivial
      · first | exact True.intro | exact ⟨rfl, rfl⟩ | exact ⟨rfl, rfl, rfl⟩ | rfl | exact rowc (List.map_id _) | trivial
      · first | exact True.intro | exact ⟨rfl, rfl⟩ | exact ⟨rfl, rfl, rfl⟩ | rfl | exact rowc (List.map_id _) | trivial
      · first | exact True.intro | exact ⟨rfl, rfl⟩ | exact ⟨rfl, rfl, rfl⟩ | rfl | exact rowc (List.map_id _) | trivial
      rintro p ⟨hp, hr⟩
      try refine gr ?_
      refine br (fun c => ?_) (fun c => ?_)
      · have hb := by_lt s p
        have no : okn p (by' s p) = false → false = nameB s := fun e => by
          have : allI okn s s.length = false := by
            rw [Bool.eq_false_iff]
            intro h2
            have := allI_iff.1 h2 p (by omega)
            rw [e] at this
            cases this
          simp [nameB, this]
        have nx : okn p (by' s p) = true → allI okn s (p + 1) = true := allI_step hr
        rw [← Bool.not_eq_true, okn_iff hb] at no
        rw [okn_iff hb] at nx
        repeat' (first | exact True.intro | (exfalso; omega) | (exact no (by omega)) | (refine ⟨p + 1, ⟨by omega, nx (by omega)⟩, (by omega), fits_of (gr ?_) (gr ?_) (gr ?_) (gr ?_) (gr ?_)⟩ <;> (first | exact True.intro | exact ⟨rfl, rfl⟩ | exact ⟨rfl, rfl, rfl⟩ | rfl | exact rowc (List.map_id _) | trivial); done) | refine br (fun h => ?_) (fun h => ?_) | refine gr ?_)
      · try refine gr ?_
        rw [show p = s.length by omega] at hr
        simp [nameB, a, hr]; omega
  · simp [nameB, a]
theorem rdig_ok (r : Nat) : Spec Tryz.prog LL 53 [.n .i32 (r : Int)] (.b (decide (48 ≤ r ∧ r ≤ 57))) := by
  refine spec_of (C := ⟨Tryz.prog, LL, EE, []⟩) (rl := [.b (decide (48 ≤ r ∧ r ≤ 57))]) (rs := [.tmp 2]) CCx LLs Tryz.func53 rfl (by kernel_rfl) rfl (by kernel_rfl) (Nat.le_of_ble_eq_true rfl) (fun i => rfl) (fun i => by first | rfl | exact (Bool.or_false _).trans (eSd_men _ _)) rfl (by decide) ?_
  refine gr ?_
  repeat' (first | exact True.intro | (exact decide_eq_decide.2 (by omega)) | (exact (decide_eq_true (by omega)).symm) | (exact (decide_eq_false (by omega)).symm) | refine br (fun h => ?_) (fun h => ?_) | refine gr ?_)
theorem rlet_ok (r : Nat) : Spec Tryz.prog LL 54 [.n .i32 (r : Int)] (.b (decide ((97 ≤ r ∧ r ≤ 122) ∨ (65 ≤ r ∧ r ≤ 90)))) := by
  refine spec_of (C := ⟨Tryz.prog, LL, EE, []⟩) (rl := [.b (decide ((97 ≤ r ∧ r ≤ 122) ∨ (65 ≤ r ∧ r ≤ 90)))]) (rs := [.tmp 2]) CCx LLs Tryz.func54 rfl (by kernel_rfl) rfl (by kernel_rfl) (Nat.le_of_ble_eq_true rfl) (fun i => rfl) (fun i => by first | rfl | exact (Bool.or_false _).trans (eSd_men _ _)) rfl (by decide) ?_
  refine gr ?_
  repeat' (first | exact True.intro | (exact decide_eq_decide.2 (by omega)) | (exact (decide_eq_true (by omega)).symm) | (exact (decide_eq_false (by omega)).symm) | refine br (fun h => ?_) (fun h => ?_) | refine gr ?_)
set_option maxHeartbeats 8000000 in
theorem rver_ok (s : List UInt8) (hs : s.length ≤ 140737488355328) : Spec Tryz.prog LL 27 [.s s] (.b (verB s)) := by
  refine spec_of (C := ⟨Tryz.prog, LL, EE, []⟩) (rl := [.b (verB s)]) (rs := [.tmp 2]) CCx LLs Tryz.func27 rfl (by kernel_rfl) rfl (by kernel_rfl) (Nat.le_of_ble_eq_true rfl) (fun i => rfl) (fun i => by first | rfl | exact (Bool.or_false _).trans (eSd_men _ _)) rfl (by decide) ?_
  refine gr ?_
  refine br (fun a => ?_) (fun a => ?_)
  · try refine gr ?_
    refine br (fun b => ?_) (fun b => ?_)
    · try refine gr ?_
      simp [verB]; omega
    · try refine gr ?_
      refine lp_hd [] [] (fun p : Nat => [(14, .p 14 0)]) (fun p : Nat => [(14, .itr s p)]) (fun p : Nat => p ≤ s.length ∧ allI okv s p = true) (fun p : Nat => s.length - p) (0) id (id) ⟨Nat.zero_le _, rfl⟩ (fits_of (gr ?_) (gr ?_) (gr ?_) (gr ?_) (gr ?_)) ?_
      · first | exact True.intro | exact ⟨rfl, rfl⟩ | exact ⟨rfl, rfl, rfl⟩ | rfl | exact rowc (List.map_id _) | trivial
      · first | exact True.intro | exact ⟨rfl, rfl⟩ | exact ⟨rfl, rfl, rfl⟩ | rfl | exact rowc (List.map_id _) | trivial
      · first | exact True.intro | exact ⟨rfl, rfl⟩ | exact ⟨rfl, rfl, rfl⟩ | rfl | exact rowc (List.map_id _) | trivial
      · first | exact True.intro | exact ⟨rfl, rfl⟩ | exact ⟨rfl, rfl, rfl⟩ | rfl | exact rowc (List.map_id _) | trivial
      · first | exact True.intro | exact ⟨rfl, rfl⟩ | exact ⟨rfl, rfl, rfl⟩ | rfl | exact rowc (List.map_id _) | trivial
      rintro p ⟨hp, hr⟩
      try refine gr ?_
      refine br (fun c => ?_) (fun c => ?_)
      · obtain ⟨k1, k2⟩ := step_rune @okv_hi c
        generalize (dec s p).1 = r at k1 k2
        have no : ¬ okv p r = true → false = verB s := fun e => by simp [verB, k1 (Bool.eq_false_iff.2 e)]
        have nx : okv p r = true → allI okv s (p + (dec s p).2) = true ∧ p + (dec s p).2 ≤ s.length ∧ p < p + (dec s p).2 := fun e => k2 e hr
        clear k1 k2
        rw [okv_iff] at no nx
        repeat' (first | exact True.intro | (exfalso; omega) | (exact no (by omega)) | refine cl (rdig_ok r) (gr ?_) | refine cl (rlet_ok r) (gr ?_) | (refine ⟨p + (dec s p).2, ⟨(nx (by omega)).2.1, (nx (by omega)).1⟩, (by have := (nx (by omega)).2.2; omega), fits_of (gr ?_) (gr ?_) (gr ?_) (gr ?_) (gr ?_)⟩ <;> (first | exact True.intro | exact ⟨rfl, rfl⟩ | exact ⟨rfl, rfl, rfl⟩ | rfl | exact rowc (List.map_id _) | trivial); done) | refine br (fun h => ?_) (fun h => ?_) | refine gr ?_)
      · try refine gr ?_
        rw [show p = s.length by omega] at hr
        simp [verB, a, hr]; omega
  · simp [verB, a]
theorem rrule_ok (r : Rul) (h2 : r.ver.length ≤ 140737488355328) : Spec Tryz.prog LL 28 [eRul r] (.b (ruleB r)) := by
  refine spec_of (C := ⟨Tryz.prog, LL, EE, []⟩) (rl := [.b (ruleB r)]) (rs := [.tmp 2]) CCx LLs Tryz.func28 rfl (by kernel_rfl) rfl (by kernel_rfl) (Nat.le_of_ble_eq_true rfl) (fun i => rfl) (fun i => by first | rfl | exact (Bool.or_false _).trans (eSd_men _ _)) rfl (by decide) ?_
  refine gr ?_
  repeat' (first | exact True.intro | (exact (Bool.eq_false_iff.2 fun e => by have q := (rule_ok' e).2.2 (by omega); omega).symm) | (simp_all [ruleB]; done) | (simp_all [ruleB]; omega) | refine cl (rname_ok r.name) (gr ?_) | refine cl (rver_ok r.ver h2) (gr ?_) | refine br (fun h => ?_) (fun h => ?_) | refine gr ?_)
/-! ### Parts, whatever they are -/
theorem dec_gen {s : List UInt8} {p : Nat} (h : p < s.length) : (dec s p = (65533, 1) ∧ Lib.validD (s.drop p) = false ∧ ¬ (p + 3 ≤ s.length ∧ (s.take (p + 3)).drop p = [239, 191, 189])) ∨
    (Lib.validD (s.drop p) = Lib.validD (s.drop (p + (dec s p).2)) ∧ ((dec s p).1 = 65533 → p + 3 ≤ s.length ∧ (s.take (p + 3)).drop p = [239, 191, 189] ∧ (dec s p).2 = 3) ∧ (¬ (dec s p).1 = 65533 → sizeN ((dec s p).1 : Int) = ((dec s p).2 : Nat))) := by
  have hv : Lib.validD (s.drop p) = if dec s p = (65533, 1) then false else Lib.validD (s.drop (p + (dec s p).2)) := by
    have := valid_at s p h
    rw [nxp_lt h] at this
    exact this
  by_cases e : dec s p = (65533, 1)
  · rw [if_pos e] at hv
    refine .inl ⟨e, hv, fun ⟨h1, h2⟩ => ?_⟩
    obtain ⟨c0, c1, c2⟩ := (Pz.three_iff s p h1).1 h2
    have h3 : dec s p = (65533, 3) := Pz.dec_fffd s p h1 c0 c1 c2
    rw [e] at h3
    cases h3
  · rw [if_neg e] at hv
    refine .inr ⟨hv, fun h3 => ?_, fun h3 => Pz.dec_w s p h3⟩
    rcases Pz.dec_ff s p h3 with h4 | ⟨h4, h5, h6⟩
    · exact absurd (Prod.ext h3 h4) e
    · exact ⟨h5, (Pz.three_iff s p h5).2 h6, h4⟩
end Go.Proofs.YtjbnmeofjiokeaaGreatDoor.Ev
namespace Go.Proofs.YtjbnmeofjiokeaaGreatDoor.Ev
open Go.RowKit
open Go.Proofs.YtjbnmeofjiokeaaGreatDoor.Mem
set_option linter.unusedVariables false
set_option linter.unusedSimpArgs false
set_option maxRecDepth 100000
theorem rsgn_eq {r : Nat} {n : Int} (h : r = 65533 → n = 3) : rsgn r n = signN r := by
  rw [Bool.eq_iff_iff, rsgn_iff]
  simp only [signN, Bool.and_eq_true, Bool.or_eq_true, decide_eq_true_eq, ne_eq]
  constructor
  · rintro ⟨h1, h2, h3, h4, h5⟩
    exact ⟨⟨⟨h1, h3⟩, h2⟩, by omega⟩
  · rintro ⟨⟨⟨h1, h3⟩, h2⟩, h5⟩
    exact ⟨h1, h2, h3, h, by omega⟩
set_option maxHeartbeats 8000000 in
theorem rpart2_ok (s : List UInt8) : Spec Tryz.prog LL 75 [.s s] (.b (partB s)) := by
  refine spec_of (C := ⟨Tryz.prog, LL, EE, []⟩) (rl := [.b (partB s)]) (rs := [.tmp 2]) CCx LLs Tryz.func75 rfl (by kernel_rfl) rfl (by kernel_rfl) (Nat.le_of_ble_eq_true rfl) (fun i => rfl) (fun i => by first | rfl | exact (Bool.or_false _).trans (eSd_men _ _)) rfl (by decide) ?_
  refine gr ?_
  by_cases h1 : 1 ≤ s.length ∧ s.length ≤ 64 ∧ s ≠ [46] ∧ s ≠ [46, 46]
  · obtain ⟨h1, h2, h3, h4⟩ := h1
    have hpb : partB s = (Lib.validD s && runs (sgF false) s 0) := by
      unfold partB signsB
      rw [decide_eq_true h1, decide_eq_true h2, decide_eq_true h3, decide_eq_true h4]
      rfl
    have h0 : ¬ s = [] := by rintro rfl; simp at h1
    iterate 4 (refine br (fun b => ?_) (fun b => ?_) <;> first | (exfalso; first | omega | exact h0 b | exact h3 b | exact h4 b | exact b h3 | exact b h4 | exact b h0) | try refine gr ?_)
    refine lp_hd [0] [] (fun p : Nat => [(23, .p 23 0), (3, .n .i64 (p : Int))]) (fun p : Nat => [(23, .itr s p)]) (fun p : Nat => p ≤ s.length ∧ partB s = (Lib.validD (s.drop p) && runs (sgF false) s p)) (fun p : Nat => s.length - p) (0) id (id) ⟨Nat.zero_le _, by rw [hpb, List.drop_zero]⟩ (fits_of (gr ?_) (gr ?_) (gr ?_) (gr ?_) (gr ?_)) ?_
    · first | exact True.intro | exact ⟨rfl, rfl⟩ | exact ⟨rfl, rfl, rfl⟩ | rfl | exact rowc (List.map_id _) | trivial
    · first | exact True.intro | exact ⟨rfl, rfl⟩ | exact ⟨rfl, rfl, rfl⟩ | rfl | exact rowc (List.map_id _) | trivial
    · first | exact True.intro | exact ⟨rfl, rfl⟩ | exact ⟨rfl, rfl, rfl⟩ | rfl | exact rowc (List.map_id _) | trivial
    · first | exact True.intro | exact ⟨rfl, rfl⟩ | exact ⟨rfl, rfl, rfl⟩ | rfl | exact rowc (List.map_id _) | trivial
    · first | exact True.intro | exact ⟨rfl, rfl⟩ | exact ⟨rfl, rfl, rfl⟩ | rfl | exact rowc (List.map_id _) | trivial
    rintro p ⟨g1, g2⟩
    try refine gr ?_
    refine br (fun b => ?_) (fun b => ?_)
    · have d1 := dec_pos s p
      have d2 := dec_le s p b
      rw [runs_lt b] at g2
      have hsg : sgF false (dec s p).1 = signN (dec s p).1 := by simp [sgF]
      rw [hsg] at g2
      rcases dec_gen b with ⟨q1, q2, q3⟩ | ⟨q1, q2, q3⟩
      · have hF : partB s = false := by rw [g2, q2]; rfl
        have c' : (dec s p).1 = 65533 := by rw [q1]
        rw [hF, c', show ((65533 : Nat) : Int) = 65533 from rfl]
        try refine gr ?_
        refine cl (size_ok _) ?_
        refine gr ?_
        have hn : rsgn 65533 1 = false := by decide
        refine br (fun f => ?_) (fun f => ?_)
        · try refine gr ?_
          refine br (fun g => ?_) (fun g => ?_)
          · try refine gr ?_
            refine cl (rsign_ok 65533 1) ?_
            refine gr ?_
            rw [hn]
            try refine gr ?_
            trivial
          · exact absurd ⟨by omega, Decidable.not_not.1 g⟩ q3
        · try refine gr ?_
          refine cl (rsign_ok 65533 1) ?_
          refine gr ?_
          rw [hn]
          try refine gr ?_
          trivial
      · rw [q1] at g2
        have nx : signN (dec s p).1 = true → p + (dec s p).2 ≤ s.length ∧ partB s = (Lib.validD (s.drop (p + (dec s p).2)) && runs (sgF false) s (p + (dec s p).2)) := fun e => ⟨d2, by rw [g2, e]; simp⟩
        have no : signN (dec s p).1 = false → partB s = false := fun e => by rw [g2, e]; simp
        try refine gr ?_
        refine cl (size_ok _) ?_
        refine gr ?_
        refine br (fun c => ?_) (fun c => ?_)
        · obtain ⟨e1, e2, e3⟩ := q2 (by omega)
          have c' : (dec s p).1 = 65533 := by omega
          have nx := nx (by rw [c']; decide)
          try refine gr ?_
          refine br (fun f => ?_) (fun f => ?_)
          · try refine gr ?_
            refine br (fun g => ?_) (fun g => ?_)
            · exact absurd e2 g
            · have hn : rsgn 65533 3 = true := by decide
              try refine gr ?_
              rw [c', show ((65533 : Nat) : Int) = 65533 from rfl, size_ff]
              refine cl (rsign_ok 65533 3) ?_
              refine gr ?_
              rw [hn]
              try refine gr ?_
              refine ⟨p + (dec s p).2, nx, (by omega), fits_of (gr ?_) (gr ?_) (gr ?_) (gr ?_) (gr ?_)⟩
              · first | exact True.intro | exact ⟨rfl, rfl⟩ | exact ⟨rfl, rfl, rfl⟩ | rfl | exact rowc (List.map_id _) | trivial
              · (rw [e3]; rfl)
              · first | exact True.intro | exact ⟨rfl, rfl⟩ | exact ⟨rfl, rfl, rfl⟩ | rfl | exact rowc (List.map_id _) | trivial
              · first | exact True.intro | exact ⟨rfl, rfl⟩ | exact ⟨rfl, rfl, rfl⟩ | rfl | exact rowc (List.map_id _) | trivial
              · first | exact True.intro | exact ⟨rfl, rfl⟩ | exact ⟨rfl, rfl, rfl⟩ | rfl | exact rowc (List.map_id _) | trivial
          · exfalso; omega
        · have q3 := q3 (by omega)
          have hn : rsgn (dec s p).1 (sizeN ((dec s p).1 : Int)) = signN (dec s p).1 := rsgn_eq (fun e => by omega)
          try refine gr ?_
          refine cl (rsign_ok (dec s p).1 _) ?_
          refine gr ?_
          rw [hn]
          refine br (fun w => ?_) (fun w => ?_)
          · rw [no (by simpa using w)]
            try refine gr ?_
            trivial
          · have nx := nx (by simpa using w)
            try refine gr ?_
            rw [q3]
            try refine gr ?_
            refine ⟨p + (dec s p).2, nx, (by omega), fits_of (gr ?_) (gr ?_) (gr ?_) (gr ?_) (gr ?_)⟩
            · first | exact True.intro | exact ⟨rfl, rfl⟩ | exact ⟨rfl, rfl, rfl⟩ | rfl | exact rowc (List.map_id _) | trivial
            · first | exact True.intro | exact ⟨rfl, rfl⟩ | exact ⟨rfl, rfl, rfl⟩ | rfl | exact rowc (List.map_id _) | trivial
            · first | exact True.intro | exact ⟨rfl, rfl⟩ | exact ⟨rfl, rfl, rfl⟩ | rfl | exact rowc (List.map_id _) | trivial
            · first | exact True.intro | exact ⟨rfl, rfl⟩ | exact ⟨rfl, rfl, rfl⟩ | rfl | exact rowc (List.map_id _) | trivial
            · first | exact True.intro | exact ⟨rfl, rfl⟩ | exact ⟨rfl, rfl, rfl⟩ | rfl | exact rowc (List.map_id _) | trivial
    · try refine gr ?_
      rw [g2, List.drop_eq_nil_of_le (by omega), runs_ge (by omega)]
      rfl
  · have hF : partB s = false := by
      rw [Bool.eq_false_iff]
      intro h
      unfold partB at h
      simp only [Bool.and_eq_true, decide_eq_true_eq] at h
      exact h1 ⟨h.1.1.1.1, h.1.1.1.2, h.1.1.2, h.1.2⟩
    rw [hF]
    by_cases b1 : s = []
    · subst b1
      try refine gr ?_
      trivial
    · have hl : 0 < s.length := List.length_pos_iff.2 b1
      refine br (fun w1 => ?_) (fun w1 => ?_)
      · try refine gr ?_
        refine br (fun w2 => ?_) (fun w2 => ?_)
        · try refine gr ?_
          refine br (fun w3 => ?_) (fun w3 => ?_)
          · try refine gr ?_
            refine br (fun w4 => ?_) (fun w4 => ?_)
            · try refine gr ?_
              trivial
            · exact absurd ⟨hl, by omega, w3, w4⟩ h1
          · try refine gr ?_
            trivial
        · try refine gr ?_
          trivial
      · exact absurd b1 w1
theorem rparts2_ok (s : List UInt8) : Spec Tryz.prog LL 55 [.s s] (.tp [.sl 1 (List UInt8) [] (partsM s).1 .s, .n .i64 (partsM s).2]) := by
  refine spec_of (C := ⟨Tryz.prog, LL, EE, []⟩) (rl := [.sl 1 (List UInt8) [] (partsM s).1 .s, .n .i64 (partsM s).2]) (rs := [.tmp 2, .tmp 3]) CCx LLs Tryz.func55 rfl (by kernel_rfl) rfl (by kernel_rfl) (Nat.le_of_ble_eq_true rfl) (fun i => rfl) (fun i => by first | rfl | exact (Bool.or_false _).trans (eSd_men _ _)) rfl (by decide) ?_
  refine gr ?_
  refine br (fun a => ?_) (fun a => ?_)
  · try refine gr ?_
    rw [show partsM s = ([], 3) from if_pos (by omega)]
    exact ⟨le_nl, rfl⟩
  · try refine gr ?_
    refine cl (rsplit_ok s (by omega)) ?_
    refine gr ?_
    refine lp_hd [4] [] (fun i : Nat => [(5, .n .i64 (i : Int))]) (fun i : Nat => []) (fun i : Nat => i ≤ (sp 47 s).length ∧ ∀ j, j < i → partB ((sp 47 s).getD j []) = true) (fun i : Nat => (sp 47 s).length - i) (0) id (id) ⟨Nat.zero_le _, fun j h => by omega⟩ (fits_of (gr ?_) (gr ?_) (gr ?_) (gr ?_) (gr ?_)) ?_
    · first | exact True.intro | exact ⟨rfl, rfl⟩ | exact ⟨rfl, rfl, rfl⟩ | rfl | exact rowc (List.map_id _) | trivial
    · first | exact True.intro | exact ⟨rfl, rfl⟩ | exact ⟨rfl, rfl, rfl⟩ | rfl | exact rowc (List.map_id _) | trivial
    · first | exact True.intro | exact ⟨rfl, rfl⟩ | exact ⟨rfl, rfl, rfl⟩ | rfl | exact rowc (List.map_id _) | trivial
    · first | exact True.intro | exact ⟨rfl, rfl⟩ | exact ⟨rfl, rfl, rfl⟩ | rfl | exact rowc (List.map_id _) | trivial
    · first | exact True.intro | exact ⟨rfl, rfl⟩ | exact ⟨rfl, rfl, rfl⟩ | rfl | exact rowc (List.map_id _) | trivial
    rintro i ⟨hi, hj⟩
    have hcn := sp_cnt 47 s
    try refine gr ?_
    refine br (fun b => ?_) (fun b => ?_)
    · try refine gr ?_
      refine cl (rpart2_ok _) ?_
      refine gr ?_
      refine br (fun c => ?_) (fun c => ?_)
      · try refine gr ?_
        rw [show partsM s = ([], 4) from (by
          unfold partsM
          rw [if_neg (by omega), if_pos]
          rw [List.all_eq_true]
          intro h
          have := h _ (getD_mem (x := []) (show i < (sp 47 s).length by omega))
          rw [this] at c
          cases c)]
        exact ⟨le_nl, rfl⟩
      · have nx : ∀ j, j < i + 1 → partB ((sp 47 s).getD j []) = true := fun j h => by
          rcases Nat.lt_or_ge j i with h' | h'
          · exact hj j h'
          · rw [show j = i by omega]; simpa using c
        try refine gr ?_
        refine ⟨i + 1, ⟨by omega, nx⟩, (by omega), fits_of (gr ?_) (gr ?_) (gr ?_) (gr ?_) (gr ?_)⟩
        · first | exact True.intro | exact ⟨rfl, rfl⟩ | exact ⟨rfl, rfl, rfl⟩ | rfl | exact rowc (List.map_id _) | trivial
        · first | exact True.intro | exact ⟨rfl, rfl⟩ | exact ⟨rfl, rfl, rfl⟩ | rfl | exact rowc (List.map_id _) | trivial
        · first | exact True.intro | exact ⟨rfl, rfl⟩ | exact ⟨rfl, rfl, rfl⟩ | rfl | exact rowc (List.map_id _) | trivial
        · first | exact True.intro | exact ⟨rfl, rfl⟩ | exact ⟨rfl, rfl, rfl⟩ | rfl | exact rowc (List.map_id _) | trivial
        · first | exact True.intro | exact ⟨rfl, rfl⟩ | exact ⟨rfl, rfl, rfl⟩ | rfl | exact rowc (List.map_id _) | trivial
    · have hall : (sp 47 s).all partB = true := by
        rw [List.all_eq_true]
        intro x hx
        obtain ⟨j, h, rfl⟩ := List.getElem_of_mem hx
        have := hj j (by omega)
        rwa [List.getD_eq_getElem?_getD, List.getElem?_eq_getElem h] at this
      try refine gr ?_
      refine br (fun c => ?_) (fun c => ?_)
      · try refine gr ?_
        rw [show partsM s = ([], 3) from (by unfold partsM; rw [if_neg (by omega), if_neg (fun e => e hall), if_pos (by omega)])]
        exact ⟨le_nl, rfl⟩
      · try refine gr ?_
        rw [show partsM s = (sp 47 s, 0) from (by unfold partsM; rw [if_neg (by omega), if_neg (fun e => e hall), if_neg (by omega)])]
        exact ⟨le_refl _, rfl⟩
end Go.Proofs.YtjbnmeofjiokeaaGreatDoor.Ev
namespace Go.Proofs.YtjbnmeofjiokeaaGreatDoor.Ev
open Go.RowKit
open Go.Proofs.YtjbnmeofjiokeaaGreatDoor.Mem
set_option linter.unusedVariables false
set_option linter.unusedSimpArgs false
set_option maxRecDepth 100000
set_option maxHeartbeats 8000000 in
theorem rtarget2_ok (s : List UInt8) : Spec Tryz.prog LL 57 [.s s] (.b (tarB s)) := by
  refine spec_of (C := ⟨Tryz.prog, LL, EE, []⟩) (rl := [.b (tarB s)]) (rs := [.tmp 2]) CCx LLs Tryz.func57 rfl (by kernel_rfl) rfl (by kernel_rfl) (Nat.le_of_ble_eq_true rfl) (fun i => rfl) (fun i => by first | rfl | exact (Bool.or_false _).trans (eSd_men _ _)) rfl (by decide) ?_
  refine gr ?_
  by_cases h1 : 1 ≤ s.length ∧ s.length ≤ 200
  · obtain ⟨h1, h2⟩ := h1
    have hpb : tarB s = (Lib.validD s && runs (sgF true) s 0) := by
      unfold tarB signsB
      rw [decide_eq_true h1, decide_eq_true h2]
      rfl
    have h0 : ¬ s = [] := by rintro rfl; simp at h1
    iterate 2 (refine br (fun b => ?_) (fun b => ?_) <;> first | (exfalso; first | omega | exact h0 b | exact b h0) | try refine gr ?_)
    refine lp_hd [0] [] (fun p : Nat => [(15, .p 15 0), (3, .n .i64 (p : Int))]) (fun p : Nat => [(15, .itr s p)]) (fun p : Nat => p ≤ s.length ∧ tarB s = (Lib.validD (s.drop p) && runs (sgF true) s p)) (fun p : Nat => s.length - p) (0) id (id) ⟨Nat.zero_le _, by rw [hpb, List.drop_zero]⟩ (fits_of (gr ?_) (gr ?_) (gr ?_) (gr ?_) (gr ?_)) ?_
    · first | exact True.intro | exact ⟨rfl, rfl⟩ | exact ⟨rfl, rfl, rfl⟩ | rfl | exact rowc (List.map_id _) | trivial
    · first | exact True.intro | exact ⟨rfl, rfl⟩ | exact ⟨rfl, rfl, rfl⟩ | rfl | exact rowc (List.map_id _) | trivial
    · first | exact True.intro | exact ⟨rfl, rfl⟩ | exact ⟨rfl, rfl, rfl⟩ | rfl | exact rowc (List.map_id _) | trivial
    · first | exact True.intro | exact ⟨rfl, rfl⟩ | exact ⟨rfl, rfl, rfl⟩ | rfl | exact rowc (List.map_id _) | trivial
    · first | exact True.intro | exact ⟨rfl, rfl⟩ | exact ⟨rfl, rfl, rfl⟩ | rfl | exact rowc (List.map_id _) | trivial
    rintro p ⟨g1, g2⟩
    try refine gr ?_
    refine br (fun b => ?_) (fun b => ?_)
    · have d1 := dec_pos s p
      have d2 := dec_le s p b
      rw [runs_lt b] at g2
      have hsg : sgF true (dec s p).1 = (signN (dec s p).1 || decide ((dec s p).1 = 47)) := by simp [sgF]
      rw [hsg] at g2
      rcases dec_gen b with ⟨q1, q2, q3⟩ | ⟨q1, q2, q3⟩
      · have hF : tarB s = false := by rw [g2, q2]; rfl
        have c' : (dec s p).1 = 65533 := by rw [q1]
        rw [hF, c', show ((65533 : Nat) : Int) = 65533 from rfl]
        try refine gr ?_
        refine cl (size_ok _) ?_
        refine gr ?_
        have hn : rsgn 65533 1 = false := by decide
        refine br (fun f => ?_) (fun f => ?_)
        · try refine gr ?_
          refine br (fun g => ?_) (fun g => ?_)
          · try refine gr ?_
            refine cl (rsign_ok 65533 1) ?_
            refine gr ?_
            rw [hn]
            try refine gr ?_
            trivial
          · exact absurd ⟨by omega, Decidable.not_not.1 g⟩ q3
        · try refine gr ?_
          refine cl (rsign_ok 65533 1) ?_
          refine gr ?_
          rw [hn]
          try refine gr ?_
          trivial
      · rw [q1] at g2
        have nx : signN (dec s p).1 = true ∨ (dec s p).1 = 47 → p + (dec s p).2 ≤ s.length ∧ tarB s = (Lib.validD (s.drop (p + (dec s p).2)) && runs (sgF true) s (p + (dec s p).2)) := fun e => ⟨d2, by rcases e with e | e <;> (rw [g2, e]; simp)⟩
        have no : signN (dec s p).1 = false → ¬ (dec s p).1 = 47 → tarB s = false := fun e e2 => by rw [g2, e, decide_eq_false e2]; simp
        try refine gr ?_
        refine cl (size_ok _) ?_
        refine gr ?_
        refine br (fun c => ?_) (fun c => ?_)
        · obtain ⟨e1, e2, e3⟩ := q2 (by omega)
          have c' : (dec s p).1 = 65533 := by omega
          have nx := nx (.inl (by rw [c']; decide))
          try refine gr ?_
          refine br (fun f => ?_) (fun f => ?_)
          · try refine gr ?_
            refine br (fun g => ?_) (fun g => ?_)
            · exact absurd e2 g
            · have hn : rsgn 65533 3 = true := by decide
              try refine gr ?_
              rw [c', show ((65533 : Nat) : Int) = 65533 from rfl, size_ff]
              try refine gr ?_
              refine cl (rsign_ok 65533 3) ?_
              refine gr ?_
              rw [hn]
              try refine gr ?_
              refine ⟨p + (dec s p).2, nx, (by omega), fits_of (gr ?_) (gr ?_) (gr ?_) (gr ?_) (gr ?_)⟩
              · first | exact True.intro | exact ⟨rfl, rfl⟩ | exact ⟨rfl, rfl, rfl⟩ | rfl | exact rowc (List.map_id _) | trivial
              · (rw [e3]; rfl)
              · first | exact True.intro | exact ⟨rfl, rfl⟩ | exact ⟨rfl, rfl, rfl⟩ | rfl | exact rowc (List.map_id _) | trivial
              · first | exact True.intro | exact ⟨rfl, rfl⟩ | exact ⟨rfl, rfl, rfl⟩ | rfl | exact rowc (List.map_id _) | trivial
              · first | exact True.intro | exact ⟨rfl, rfl⟩ | exact ⟨rfl, rfl, rfl⟩ | rfl | exact rowc (List.map_id _) | trivial
          · exfalso; omega
        · have q3 := q3 (by omega)
          have hn : rsgn (dec s p).1 (sizeN ((dec s p).1 : Int)) = signN (dec s p).1 := rsgn_eq (fun e => by omega)
          try refine gr ?_
          refine br (fun d => ?_) (fun d => ?_)
          · try refine gr ?_
            refine cl (rsign_ok (dec s p).1 _) ?_
            refine gr ?_
            rw [hn]
            refine br (fun w => ?_) (fun w => ?_)
            · rw [no (by simpa using w) (by omega)]
              try refine gr ?_
              trivial
            · have nx := nx (.inl (by simpa using w))
              try refine gr ?_
              rw [q3]
              try refine gr ?_
              refine ⟨p + (dec s p).2, nx, (by omega), fits_of (gr ?_) (gr ?_) (gr ?_) (gr ?_) (gr ?_)⟩
              · first | exact True.intro | exact ⟨rfl, rfl⟩ | exact ⟨rfl, rfl, rfl⟩ | rfl | exact rowc (List.map_id _) | trivial
              · first | exact True.intro | exact ⟨rfl, rfl⟩ | exact ⟨rfl, rfl, rfl⟩ | rfl | exact rowc (List.map_id _) | trivial
              · first | exact True.intro | exact ⟨rfl, rfl⟩ | exact ⟨rfl, rfl, rfl⟩ | rfl | exact rowc (List.map_id _) | trivial
              · first | exact True.intro | exact ⟨rfl, rfl⟩ | exact ⟨rfl, rfl, rfl⟩ | rfl | exact rowc (List.map_id _) | trivial
              · first | exact True.intro | exact ⟨rfl, rfl⟩ | exact ⟨rfl, rfl, rfl⟩ | rfl | exact rowc (List.map_id _) | trivial
          · have nx := nx (.inr (by omega))
            try refine gr ?_
            rw [q3]
            try refine gr ?_
            refine ⟨p + (dec s p).2, nx, (by omega), fits_of (gr ?_) (gr ?_) (gr ?_) (gr ?_) (gr ?_)⟩
            · first | exact True.intro | exact ⟨rfl, rfl⟩ | exact ⟨rfl, rfl, rfl⟩ | rfl | exact rowc (List.map_id _) | trivial
            · first | exact True.intro | exact ⟨rfl, rfl⟩ | exact ⟨rfl, rfl, rfl⟩ | rfl | exact rowc (List.map_id _) | trivial
            · first | exact True.intro | exact ⟨rfl, rfl⟩ | exact ⟨rfl, rfl, rfl⟩ | rfl | exact rowc (List.map_id _) | trivial
            · first | exact True.intro | exact ⟨rfl, rfl⟩ | exact ⟨rfl, rfl, rfl⟩ | rfl | exact rowc (List.map_id _) | trivial
            · first | exact True.intro | exact ⟨rfl, rfl⟩ | exact ⟨rfl, rfl, rfl⟩ | rfl | exact rowc (List.map_id _) | trivial
    · try refine gr ?_
      rw [g2, List.drop_eq_nil_of_le (by omega), runs_ge (by omega)]
      rfl
  · have hF : tarB s = false := by
      rw [Bool.eq_false_iff]
      intro h
      unfold tarB at h
      simp only [Bool.and_eq_true, decide_eq_true_eq] at h
      exact h1 ⟨h.1.1, h.1.2⟩
    rw [hF]
    by_cases b1 : s = []
    · subst b1
      try refine gr ?_
      trivial
    · have hl : 0 < s.length := List.length_pos_iff.2 b1
      refine br (fun w1 => ?_) (fun w1 => ?_)
      · try refine gr ?_
        refine br (fun w2 => ?_) (fun w2 => ?_)
        · try refine gr ?_
          trivial
        · exfalso; omega
      · exact absurd b1 w1
end Go.Proofs.YtjbnmeofjiokeaaGreatDoor.Ev
namespace Go.Proofs.YtjbnmeofjiokeaaGreatDoor.Ev
open Go.RowKit
open Go.Proofs.YtjbnmeofjiokeaaGreatDoor.Mem
set_option linter.unusedVariables false
set_option linter.unusedSimpArgs false
set_option maxRecDepth 100000
theorem ib_ge (c : UInt8) : ∀ s : List UInt8, -1 ≤ Lib.indexByte s c
  | [] => by show (-1 : Int) ≤ -1; omega
  | x :: r => by
    have ih := ib_ge c r
    by_cases e : x = c
    · have : Lib.indexByte (x :: r) c = 0 := by unfold Lib.indexByte; rw [e]; simp
      rw [this]; omega
    · rw [ibn c x r e]
      split <;> omega
def cutI (s : List UInt8) (c : UInt8) : List UInt8 := if 0 ≤ Lib.indexByte s c then s.take (Lib.indexByte s c).toNat else s
theorem cutI_sp (c : UInt8) : ∀ s : List UInt8, cutI s c = (sp c s).getD 0 []
  | [] => rfl
  | x :: r => by
    have ih := cutI_sp c r
    unfold sp
    by_cases e : x = c
    · rw [if_pos e, List.getD_cons_zero]
      unfold cutI
      have : Lib.indexByte (x :: r) c = 0 := by unfold Lib.indexByte; rw [e]; simp
      rw [this]
      rfl
    · rw [if_neg e, List.getD_cons_zero]
      have hh : (sp c r).headD [] = cutI r c := by rw [ih]; cases sp c r <;> rfl
      rw [hh]
      unfold cutI
      rw [ibn c x r e]
      have hb := ib_ge c r
      by_cases h : Lib.indexByte r c = -1
      · rw [if_pos h, h]; rfl
      · rw [if_neg h, if_pos (by omega), if_pos (by omega), show (Lib.indexByte r c + 1).toNat = (Lib.indexByte r c).toNat + 1 by omega]
        rfl
theorem cut_sp (s : List UInt8) (c : UInt8) : (Lib.cut s [c]).1 = (sp c s).getD 0 [] := by
  rw [← cutI_sp]
  unfold Lib.cut cutI
  rw [Lib.index_one]
  split <;> rfl
theorem res_sp (s : List UInt8) : decide ((sp 47 s).getD 0 [] = [46, 104, 111, 108, 100, 97, 108, 108]) = resB s := by
  unfold resB
  rw [cut_sp]
set_option maxHeartbeats 20000000 in
theorem rentry2_ok (x : Ent) : Spec Tryz.prog LL 29 [eEnt x] (.n .i64 (entryM x)) := by
  refine spec_of (C := ⟨Tryz.prog, LL, EE, []⟩) (rl := [.n .i64 (entryM x)]) (rs := [.tmp 2]) CCx LLs Tryz.func29 rfl (by kernel_rfl) rfl (by kernel_rfl) (Nat.le_of_ble_eq_true rfl) (fun i => rfl) (fun i => by first | rfl | exact (Bool.or_false _).trans (eSd_men _ _)) rfl (by decide) ?_
  refine gr ?_
  refine cl (rparts2_ok x.path) ?_
  refine gr ?_
  have hl : (partsM x.path).2 = 0 → x.path.length ≤ 200 := fun h => (parts_of h).1
  have hres : resB x.path = true ↔ (sp 47 x.path).getD 0 [] = [46, 104, 111, 108, 100, 97, 108, 108] := by rw [← res_sp, decide_eq_true_eq]
  have t1 : ¬ (partsM x.path).2 = 0 → (partsM x.path).2 = entryM x := fun h => by rw [entryM, if_pos h]
  have t2 : (partsM x.path).2 = 0 → (sp 47 x.path).getD 0 [] = [46, 104, 111, 108, 100, 97, 108, 108] → 19 = entryM x := fun h h2 => by rw [entryM, if_neg (fun e => e h), if_pos (hres.2 h2)]
  have t3 : (partsM x.path).2 = 0 → ¬ (sp 47 x.path).getD 0 [] = [46, 104, 111, 108, 100, 97, 108, 108] → ¬ (x.kind = 1 ∨ x.kind = 5 ∨ x.kind = 2 ∨ x.kind = 3) → 1 = entryM x := fun h h2 h3 => by rw [entryM, if_neg (fun e => e h), if_neg (fun e => h2 (hres.1 e)), if_pos (show ¬ knd x.kind from h3)]
  have t4 : (partsM x.path).2 = 0 → ¬ (sp 47 x.path).getD 0 [] = [46, 104, 111, 108, 100, 97, 108, 108] → (x.kind = 1 ∨ x.kind = 5 ∨ x.kind = 2 ∨ x.kind = 3) → (x.mode < 0 ∨ 4095 < x.mode ∨ (x.kind = 3 ∧ ¬ x.mode = 0) ∨ ¬ (x.sum.length : Int) = sizeM x.kind) → 1 = entryM x := fun h h2 h3 h4 => by rw [entryM, if_neg (fun e => e h), if_neg (fun e => h2 (hres.1 e)), if_neg (fun e => e (show knd x.kind from h3)), if_pos h4]
  have t5 : (partsM x.path).2 = 0 → ¬ (sp 47 x.path).getD 0 [] = [46, 104, 111, 108, 100, 97, 108, 108] → (x.kind = 1 ∨ x.kind = 5 ∨ x.kind = 2 ∨ x.kind = 3) → ¬ (x.mode < 0 ∨ 4095 < x.mode ∨ (x.kind = 3 ∧ ¬ x.mode = 0) ∨ ¬ (x.sum.length : Int) = sizeM x.kind) → entryM x = if x.kind = 3 ∧ tarB x.target = false then 4 else if ¬ x.kind = 3 ∧ ¬ x.target = [] then 1 else 0 := fun h h2 h3 h4 => by rw [entryM, if_neg (fun e => e h), if_neg (fun e => h2 (hres.1 e)), if_neg (fun e => e (show knd x.kind from h3)), if_neg h4]
  have z1 : x.kind = 1 ∨ x.kind = 5 → sizeM x.kind = 32 := fun h => if_pos h
  have z2 : ¬ (x.kind = 1 ∨ x.kind = 5) → sizeM x.kind = 0 := fun h => if_neg h
  have z3 : x.sum = [] ↔ x.sum.length = 0 := List.length_eq_zero_iff.symm
  repeat' (first | exact True.intro | (exfalso; omega) | (exact t1 (by omega)) | (exact t2 (by omega) (by assumption)) | (exact t3 (by omega) (by assumption) (by omega)) | (exact t4 (by omega) (by assumption) (by omega) (by first | omega | (rw [z3] at *; omega))) | (rw [t5 (by omega) (by assumption) (by omega) (by first | omega | (rw [z3] at *; omega))]; simp_all; done) | refine cl (rres_ok x.path (by have := hl (by omega); omega)) (gr ?_) | refine cl (rtarget2_ok x.target) (gr ?_) | refine br (fun h => ?_) (fun h => ?_) | refine gr ?_)
end Go.Proofs.YtjbnmeofjiokeaaGreatDoor.Ev
namespace Go.Proofs.YtjbnmeofjiokeaaGreatDoor.Ev
open Go.RowKit
open Go.Proofs.YtjbnmeofjiokeaaGreatDoor.Mem
set_option linter.unusedVariables false
set_option linter.unusedSimpArgs false
set_option maxRecDepth 100000
theorem join_snoc (c : UInt8) : ∀ (l : List (List UInt8)) (a : List UInt8), l ≠ [] → Lib.join (l ++ [a]) [c] = Lib.join l [c] ++ c :: a
  | [], a, h => absurd rfl h
  | [b], a, _ => by rw [List.singleton_append, join_cc, Lib.join_one, Lib.join_one]
  | b :: d :: l, a, _ => by
    have := join_snoc c (d :: l) a (by simp)
    rw [List.cons_append, List.cons_append, join_cc, join_cc, ← List.cons_append, this, List.append_assoc]
    rfl
theorem join_take (c : UInt8) (l : List (List UInt8)) (i : Nat) (h : i < l.length) (h0 : 0 < i) : Lib.join (l.take (i + 1)) [c] = Lib.join (l.take i) [c] ++ c :: l.getD i [] := by
  rw [take_at l i [] h, join_snoc c _ _ (by intro e; have := congrArg List.length e; rw [List.length_take, List.length_nil] at this; omega)]
theorem rjoin_ok (l : List (List UInt8)) (hl : l.length ≤ 1000000) (h : ∀ i, i ≤ l.length → (Lib.join (l.take i) [47]).length ≤ 1000000000) : Spec Tryz.prog LL 59 [.sl 1 (List UInt8) [] l .s] (.s (Lib.join l [47])) := by
  refine spec_of (C := ⟨Tryz.prog, LL, EE, []⟩) (rl := [.s (Lib.join l [47])]) (rs := [.tmp 2]) CCx LLs Tryz.func59 rfl (by kernel_rfl) rfl (by kernel_rfl) (Nat.le_of_ble_eq_true rfl) (fun i => rfl) (fun i => by first | rfl | exact (Bool.or_false _).trans (eSd_men _ _)) rfl (by decide) ?_
  refine gr ?_
  refine lp_hd [0] [] (fun i : Nat => [(3, .s (Lib.join (l.take i) [47])), (4, .n .i64 (i : Int))]) (fun i : Nat => []) (fun i : Nat => i ≤ l.length) (fun i : Nat => l.length - i) (0) id (id) (Nat.zero_le _) (fits_of (gr ?_) (gr ?_) (gr ?_) (gr ?_) (gr ?_)) ?_
  · first | exact True.intro | exact ⟨rfl, rfl⟩ | exact ⟨rfl, rfl, rfl⟩ | rfl | exact rowc (List.map_id _) | trivial
  · exact ⟨rfl, rfl⟩
  · first | exact True.intro | exact ⟨rfl, rfl⟩ | exact ⟨rfl, rfl, rfl⟩ | rfl | exact rowc (List.map_id _) | trivial
  · first | exact True.intro | exact ⟨rfl, rfl⟩ | exact ⟨rfl, rfl, rfl⟩ | rfl | exact rowc (List.map_id _) | trivial
  · first | exact True.intro | exact ⟨rfl, rfl⟩ | exact ⟨rfl, rfl, rfl⟩ | rfl | exact rowc (List.map_id _) | trivial
  rintro i hi
  try refine gr ?_
  refine br (fun b => ?_) (fun b => ?_)
  · have h1 := h i (by omega)
    have h2 := h (i + 1) (by omega)
    try refine gr ?_
    refine br (fun c => ?_) (fun c => ?_)
    · have ht := join_take 47 l i (by omega) (by omega)
      rw [ht, List.length_append, List.length_cons] at h2
      try refine gr ?_
      refine ⟨i + 1, (by omega), (by omega), fits_of (gr ?_) (gr ?_) (gr ?_) (gr ?_) (gr ?_)⟩
      · first | exact True.intro | exact ⟨rfl, rfl⟩ | exact ⟨rfl, rfl, rfl⟩ | rfl | exact rowc (List.map_id _) | trivial
      · (rw [ht]; exact ⟨by simp, rfl⟩)
      · first | exact True.intro | exact ⟨rfl, rfl⟩ | exact ⟨rfl, rfl, rfl⟩ | rfl | exact rowc (List.map_id _) | trivial
      · first | exact True.intro | exact ⟨rfl, rfl⟩ | exact ⟨rfl, rfl, rfl⟩ | rfl | exact rowc (List.map_id _) | trivial
      · first | exact True.intro | exact ⟨rfl, rfl⟩ | exact ⟨rfl, rfl, rfl⟩ | rfl | exact rowc (List.map_id _) | trivial
    · have hi0 : i = 0 := by omega
      subst hi0
      have ht : Lib.join (l.take 1) [47] = l.getD 0 [] := by rw [show l.take (0 + 1) = _ from take_at l 0 [] (by omega), List.take_zero, List.nil_append, Lib.join_one]
      rw [Nat.zero_add, ht] at h2
      rw [List.take_zero, Lib.join_nil]
      try refine gr ?_
      refine ⟨1, (by omega), (by omega), fits_of (gr ?_) (gr ?_) (gr ?_) (gr ?_) (gr ?_)⟩
      · first | exact True.intro | exact ⟨rfl, rfl⟩ | exact ⟨rfl, rfl, rfl⟩ | rfl | exact rowc (List.map_id _) | trivial
      · (rw [ht]; exact ⟨rfl, rfl⟩)
      · first | exact True.intro | exact ⟨rfl, rfl⟩ | exact ⟨rfl, rfl, rfl⟩ | rfl | exact rowc (List.map_id _) | trivial
      · first | exact True.intro | exact ⟨rfl, rfl⟩ | exact ⟨rfl, rfl, rfl⟩ | rfl | exact rowc (List.map_id _) | trivial
      · first | exact True.intro | exact ⟨rfl, rfl⟩ | exact ⟨rfl, rfl, rfl⟩ | rfl | exact rowc (List.map_id _) | trivial
  · try refine gr ?_
    rw [List.take_of_length_le (by omega)]
end Go.Proofs.YtjbnmeofjiokeaaGreatDoor.Ev
