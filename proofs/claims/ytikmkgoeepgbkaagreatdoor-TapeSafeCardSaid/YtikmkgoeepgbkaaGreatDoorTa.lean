/- Records: their parts. -/
import Derived.Test.YtikmkgoeepgbkaaGreatDoorTx
import Derived.Test.YtikmkgoeepgbkaaGreatDoorTl
set_option linter.all false
namespace Go.Proofs.YtikmkgoeepgbkaaGreatDoor.Ev
open Go.RowKit
open Go.Proofs.YtikmkgoeepgbkaaGreatDoor.Mem
set_option linter.unusedVariables false
set_option linter.unusedSimpArgs false
set_option maxRecDepth 100000
theorem pkey_ok (s : List UInt8) : Spec Tryz.prog LL 105 [.s s] (.b (pkeyB s)) := by
  refine spec_of (C := ⟨Tryz.prog, LL, EE, []⟩) (rl := [.b (pkeyB s)]) (rs := [.tmp 2]) CCx LLs Tryz.func105 rfl (by kernel_rfl) rfl (by kernel_rfl) (Nat.le_of_ble_eq_true rfl) (fun i => rfl) (fun i => by first | rfl | exact (Bool.or_false _).trans (eSd_men _ _)) rfl (by decide) ?_
  refine gh ?_
  unfold pkeyB
  refine br (fun a => ?_) (fun a => ?_)
  · rw [decide_eq_true a, Bool.true_and]
    try refine gh ?_
    refine cl (ib_ok s 61) ?_
    refine gh ?_
    refine br (fun b => ?_) (fun b => ?_)
    · rw [decide_eq_true b, Bool.true_and]
      try refine gh ?_
      refine cl (ib_ok s 0) ?_
      refine gh ?_
      refine br (fun c => ?_) (fun c => ?_)
      · rw [decide_eq_true c, Bool.true_and]
        try refine gh ?_
        refine cl (ib_ok s 10) ?_
        refine gh ?_
        refine br (fun d => ?_) (fun d => ?_)
        · rw [decide_eq_true d, Bool.true_and]
          try refine gh ?_
          refine cl (ib_ok s 32) ?_
          refine gh ?_
          trivial
        · rw [decide_eq_false d, Bool.false_and]
          try refine gh ?_
      · rw [decide_eq_false c, Bool.false_and, Bool.false_and]
        try refine gh ?_
    · rw [decide_eq_false b, Bool.false_and, Bool.false_and, Bool.false_and]
      try refine gh ?_
  · rw [decide_eq_false a, Bool.false_and, Bool.false_and, Bool.false_and, Bool.false_and]
    try refine gh ?_
theorem itoa_nat (n : Nat) : Lib.itoa (n : Int) = Lib.decDigits n := by
  unfold Lib.itoa
  rw [if_neg (by omega)]
  rfl
theorem plength_ok (r : Nat) (hr : r < 100000000000000000) : Spec Tryz.prog LL 129 [.n .i64 (r : Int)] (.n .i64 (lenM r : Int)) := by
  refine spec_of (C := ⟨Tryz.prog, LL, EE, []⟩) (rl := [.n .i64 (lenM r : Int)]) (rs := [.tmp 2]) CCx LLs Tryz.func129 rfl (by kernel_rfl) rfl (by kernel_rfl) (Nat.le_of_ble_eq_true rfl) (fun i => rfl) (fun i => by first | rfl | exact (Bool.or_false _).trans (eSd_men _ _)) rfl (by decide) ?_
  refine gh ?_
  refine lp_hd [0] [] (fun k : Nat => [(3, .n .i64 ((r + 1 + k : Nat) : Int))]) (fun k : Nat => []) (fun k : Nat => k ≤ 40 ∧ lenM r = lenF r (40 - k) (r + 1 + k) ∧ r + 1 + k ≤ r + dgl (r + 1 + k)) (fun k : Nat => 40 - k) (0) id (id) ⟨Nat.zero_le _, rfl, by have := dgl_pos (r + 1 + 0); omega⟩ (fits_of (gh ?_) (gh ?_) (gh ?_) (gh ?_) (gh ?_)) ?_
  · first | exact True.intro | exact ⟨rfl, rfl⟩ | exact ⟨rfl, rfl, rfl⟩ | rfl | exact rowc (List.map_id _) | trivial
  · first | exact True.intro | exact ⟨rfl, rfl⟩ | exact ⟨rfl, rfl, rfl⟩ | rfl | exact rowc (List.map_id _) | trivial
  · first | exact True.intro | exact ⟨rfl, rfl⟩ | exact ⟨rfl, rfl, rfl⟩ | rfl | exact rowc (List.map_id _) | trivial
  · first | exact True.intro | exact ⟨rfl, rfl⟩ | exact ⟨rfl, rfl, rfl⟩ | rfl | exact rowc (List.map_id _) | trivial
  · first | exact True.intro | exact ⟨rfl, rfl⟩ | exact ⟨rfl, rfl, rfl⟩ | rfl | exact rowc (List.map_id _) | trivial
  rintro k ⟨hk, hr2, hr3⟩
  try refine gh ?_
  refine cl (itoa_ok ((r + 1 + k : Nat) : Int) (by omega) (by omega)) ?_
  refine gh ?_
  rw [itoa_nat]
  have hd : (Lib.decDigits (r + 1 + k)).length = dgl (r + 1 + k) := rfl
  rw [hd]
  have h19 := dgl_le 18 (r + 1 + k) (by have : (10 : Nat) ^ (18 + 1) = 10000000000000000000 := by decide
                                        omega)
  have hmo := dgl_mono (r + 1 + k) (r + 1 + (k + 1)) (by omega)
  generalize hdd : dgl (r + 1 + k) = d at h19 hr3 hmo ⊢
  obtain ⟨j, hj⟩ : ∃ j, 40 - k = j + 1 := ⟨39 - k, by omega⟩
  rw [hj, lenF, hdd] at hr2
  try refine gh ?_
  refine br (fun e => ?_) (fun e => ?_)
  · rw [if_neg (by omega)] at hr2
    try refine gh ?_
    refine ⟨k + 1, ⟨by omega, by rw [hr2, show 40 - (k + 1) = j by omega]; rfl, by omega⟩, (by omega), fits_of (gh ?_) (gh ?_) (gh ?_) (gh ?_) (gh ?_)⟩
    · first | exact True.intro | exact ⟨rfl, rfl⟩ | exact ⟨rfl, rfl, rfl⟩ | rfl | exact rowc (List.map_id _) | trivial
    · (rw [show ((r + 1 + k : Nat) : Int) + 1 = ((r + 1 + (k + 1) : Nat) : Int) by omega])
    · first | exact True.intro | exact ⟨rfl, rfl⟩ | exact ⟨rfl, rfl, rfl⟩ | rfl | exact rowc (List.map_id _) | trivial
    · first | exact True.intro | exact ⟨rfl, rfl⟩ | exact ⟨rfl, rfl, rfl⟩ | rfl | exact rowc (List.map_id _) | trivial
    · first | exact True.intro | exact ⟨rfl, rfl⟩ | exact ⟨rfl, rfl, rfl⟩ | rfl | exact rowc (List.map_id _) | trivial
  · rw [if_pos (by omega)] at hr2
    rw [hr2]
    try refine gh ?_
    trivial
theorem precord_ok (p : Pr) (hk : p.key.length ≤ 1000000000000) (hv : p.val.length ≤ 1000000000000) : Spec Tryz.prog LL 106 [ePr p] (.s (recM p)) := by
  refine spec_of (C := ⟨Tryz.prog, LL, EE, []⟩) (rl := [.s (recM p)]) (rs := [.tmp 2]) CCx LLs Tryz.func106 rfl (by kernel_rfl) rfl (by kernel_rfl) (Nat.le_of_ble_eq_true rfl) (fun i => rfl) (fun i => by first | rfl | exact (Bool.or_false _).trans (eSd_men _ _)) rfl (by decide) ?_
  refine gh ?_
  have hl := rstM_len p
  have h0 := (lenM_spec (r := (rstM p).length) (by omega))
  rw [show p.key.length + (p.val.length + 1 + 1) + 1 = (rstM p).length by omega]
  refine cl (plength_ok (rstM p).length (by omega)) ?_
  refine gh ?_
  refine cl (itoa_ok (lenM (rstM p).length : Int) (by omega) (by omega)) ?_
  refine gh ?_
  rw [itoa_nat]
  have h3 : (Lib.decDigits (lenM (rstM p).length)).length = dgl (lenM (rstM p).length) := rfl
  exact ⟨by omega, rfl⟩
theorem dgN_of {s : List UInt8} {i : Nat} (hi : i ≤ s.length) (h1 : ∀ j, j < i → dg (s.getD j 0) = true) (h2 : i < s.length → dg (s.getD i 0) = false) : dgN s = i := by
  unfold dgN
  rw [(ahead (f := dg) hi h1 h2).1, List.length_take]
  omega
theorem pdigits_ok (s : List UInt8) (hs : s.length ≤ 100000000000000000) : Spec Tryz.prog LL 138 [.s s] (.n .i64 (dgN s : Int)) := by
  refine spec_of (C := ⟨Tryz.prog, LL, EE, []⟩) (rl := [.n .i64 (dgN s : Int)]) (rs := [.tmp 2]) CCx LLs Tryz.func138 rfl (by kernel_rfl) rfl (by kernel_rfl) (Nat.le_of_ble_eq_true rfl) (fun i => rfl) (fun i => by first | rfl | exact (Bool.or_false _).trans (eSd_men _ _)) rfl (by decide) ?_
  refine gh ?_
  refine lp_hd [0] [] (fun i : Nat => [(3, .n .i64 (i : Int))]) (fun i : Nat => []) (fun i : Nat => i ≤ s.length ∧ (∀ j, j < i → dg (s.getD j 0) = true)) (fun i : Nat => s.length - i) (0) id (id) ⟨Nat.zero_le _, fun j h => absurd h (Nat.not_lt_zero _)⟩ (fits_of (gh ?_) (gh ?_) (gh ?_) (gh ?_) (gh ?_)) ?_
  · first | exact True.intro | exact ⟨rfl, rfl⟩ | exact ⟨rfl, rfl, rfl⟩ | rfl | exact rowc (List.map_id _) | trivial
  · first | exact True.intro | exact ⟨rfl, rfl⟩ | exact ⟨rfl, rfl, rfl⟩ | rfl | exact rowc (List.map_id _) | trivial
  · first | exact True.intro | exact ⟨rfl, rfl⟩ | exact ⟨rfl, rfl, rfl⟩ | rfl | exact rowc (List.map_id _) | trivial
  · first | exact True.intro | exact ⟨rfl, rfl⟩ | exact ⟨rfl, rfl, rfl⟩ | rfl | exact rowc (List.map_id _) | trivial
  · first | exact True.intro | exact ⟨rfl, rfl⟩ | exact ⟨rfl, rfl, rfl⟩ | rfl | exact rowc (List.map_id _) | trivial
  rintro i ⟨hi, hr⟩
  have hdg : dg (s.getD i 0) = decide (48 ≤ by' s i ∧ by' s i ≤ 57) := rfl
  try refine gh ?_
  repeat' (first | exact True.intro | (rw [dgN_of hi hr fun h => by rw [hdg]; exact decide_eq_false (by omega)]) | (refine ⟨i + 1, ⟨by omega, fun j hj => by rcases Nat.lt_or_ge j i with h | h; exact hr j h; rw [show j = i by omega, hdg]; exact decide_eq_true (by omega)⟩, (by omega), fits_of (gh ?_) (gh ?_) (gh ?_) (gh ?_) (gh ?_)⟩ <;> (first | exact True.intro | exact ⟨rfl, rfl⟩ | exact ⟨rfl, rfl, rfl⟩ | rfl | exact rowc (List.map_id _) | trivial); done) | refine br (fun h => ?_) (fun h => ?_) | refine gh ?_)
theorem plast_ok (l : List Pr) (w : List UInt8) (hl : l.length ≤ 100000000000000) : Spec Tryz.prog LL 140 [.sl 2 Pr dPr l ePr, .s w] (.tp [.s (lastM l w).1, .b (lastM l w).2]) := by
  refine spec_of (C := ⟨Tryz.prog, LL, EE, []⟩) (rl := [.s (lastM l w).1, .b (lastM l w).2]) (rs := [.tmp 4, .tmp 5]) CCx LLs Tryz.func140 rfl (by kernel_rfl) rfl (by kernel_rfl) (Nat.le_of_ble_eq_true rfl) (fun i => rfl) (fun i => by first | rfl | exact (Bool.or_false _).trans (eSd_men _ _)) rfl (by decide) ?_
  refine gh ?_
  refine lp_hd [0, 1] [] (fun i : Nat => [(6, .n .i64 ((l.length : Int) - 1 - (i : Int)))]) (fun i : Nat => []) (fun i : Nat => i ≤ l.length ∧ lastM l w = lastM (l.take (l.length - i)) w) (fun i : Nat => l.length - i) (0) id (id) ⟨Nat.zero_le _, by rw [Nat.sub_zero, List.take_length]⟩ (fits_of (gh ?_) (gh ?_) (gh ?_) (gh ?_) (gh ?_)) ?_
  · first | exact True.intro | exact ⟨rfl, rfl⟩ | exact ⟨rfl, rfl, rfl⟩ | rfl | exact rowc (List.map_id _) | trivial
  · exact congrArg (V.n .i64) (by omega)
  · first | exact True.intro | exact ⟨rfl, rfl⟩ | exact ⟨rfl, rfl, rfl⟩ | rfl | exact rowc (List.map_id _) | trivial
  · first | exact True.intro | exact ⟨rfl, rfl⟩ | exact ⟨rfl, rfl, rfl⟩ | rfl | exact rowc (List.map_id _) | trivial
  · first | exact True.intro | exact ⟨rfl, rfl⟩ | exact ⟨rfl, rfl, rfl⟩ | rfl | exact rowc (List.map_id _) | trivial
  rintro i ⟨hi, hr⟩
  try refine gh ?_
  refine br (fun e => ?_) (fun e => ?_)
  · obtain ⟨j, hj⟩ : ∃ j, l.length - i = j + 1 := ⟨l.length - i - 1, by omega⟩
    rw [hj, take_at l j dPr (by omega), lastM_app] at hr
    have hx : lastM [l.getD j dPr] w = if (l.getD j dPr).key = w then ((l.getD j dPr).val, true) else ([], false) := by
      unfold lastM lastM
      rw [if_neg (by simp)]
    rw [hx] at hr
    try refine gh ?_
    rw [show ((l.length : Int) - 1 - (i : Int)).toNat = j by omega]
    refine br (fun f => ?_) (fun f => ?_)
    · rw [if_pos f, if_pos rfl] at hr
      try refine gh ?_
      rw [show ((l.length : Int) - 1 - (i : Int)).toNat = j by omega, hr]
      exact ⟨rfl, rfl⟩
    · rw [if_neg f, if_neg (by simp)] at hr
      try refine gh ?_
      refine ⟨i + 1, ⟨by omega, by rw [hr, show l.length - (i + 1) = j by omega]⟩, (by omega), fits_of (gh ?_) (gh ?_) (gh ?_) (gh ?_) (gh ?_)⟩
      · first | exact True.intro | exact ⟨rfl, rfl⟩ | exact ⟨rfl, rfl, rfl⟩ | rfl | exact rowc (List.map_id _) | trivial
      · exact congrArg (V.n .i64) (by omega)
      · first | exact True.intro | exact ⟨rfl, rfl⟩ | exact ⟨rfl, rfl, rfl⟩ | rfl | exact rowc (List.map_id _) | trivial
      · first | exact True.intro | exact ⟨rfl, rfl⟩ | exact ⟨rfl, rfl, rfl⟩ | rfl | exact rowc (List.map_id _) | trivial
      · first | exact True.intro | exact ⟨rfl, rfl⟩ | exact ⟨rfl, rfl, rfl⟩ | rfl | exact rowc (List.map_id _) | trivial
  · try refine gh ?_
    rw [hr, show l.length - i = 0 by omega]
    exact ⟨rfl, rfl⟩
end Go.Proofs.YtikmkgoeepgbkaaGreatDoor.Ev
