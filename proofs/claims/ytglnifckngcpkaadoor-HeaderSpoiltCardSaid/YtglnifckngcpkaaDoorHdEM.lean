/- Layer 9: a header is written as the document says: the mathematics. -/
import Derived.Test.YtglnifckngcpkaaDoorHdEL
import Derived.Test.YtglnifckngcpkaaDoorHdS
import Derived.Test.YtglnifckngcpkaaDoorHdP
import Derived.Test.YtglnifckngcpkaaDoorHdR
set_option linter.unusedVariables false
namespace Go.Proofs.YtglnifckngcpkaaDoor.Hd
open Go.Proofs.YtglnifckngcpkaaDoor.Mem
theorem hsum_sl (s t : List UInt8) (hl : s.length = t.length) (h : ∀ i, ¬ (148 ≤ i ∧ i < 156) → by' s i = by' t i) : ∀ k x i, hsum_m_l0 s k (x, i) = hsum_m_l0 t k (x, i)
  | 0, x, i => rfl
  | k + 1, x, i => by
    show hsum_m_b0 s (hsum_m_l0 s k) x i = hsum_m_b0 t (hsum_m_l0 t k) x i
    unfold hsum_m_b0
    rw [← hl]
    by_cases h1 : i < s.length
    · rw [if_pos h1, if_pos h1]
      by_cases h2 : 148 ≤ i
      · rw [if_pos h2, if_pos h2]
        by_cases h3 : i < 156
        · rw [if_pos h3, if_pos h3]; exact hsum_sl s t hl h k _ _
        · rw [if_neg h3, if_neg h3, h i (fun c => h3 c.2)]; exact hsum_sl s t hl h k _ _
      · rw [if_neg h2, if_neg h2, h i (fun c => h2 c.1)]; exact hsum_sl s t hl h k _ _
    · rw [if_neg h1, if_neg h1]
/-- The sum does not ask what its own field holds. -/
theorem hsum_skip (s t : List UInt8) (hl : s.length = t.length) (h : ∀ i, ¬ (148 ≤ i ∧ i < 156) → by' s i = by' t i) : hsum_m s = hsum_m t := by
  unfold hsum_m
  rw [hsum_sl s t hl h, hl]
  by_cases h1 : t.length = 512
  · rw [if_neg (fun c => c h1), if_neg (fun c => c h1)]; rfl
  · rw [if_pos h1, if_pos h1]
theorem hsum_mid (a x y b : List UInt8) (ha : a.length = 148) (hx : x.length = 8) (hy : y.length = 8) : hsum_m ((a ++ x) ++ b) = hsum_m ((a ++ y) ++ b) := by
  refine hsum_skip _ _ (by simp only [List.length_append]; omega) (fun i hi => ?_)
  unfold by'
  congr 1
  simp only [List.getD, List.append_assoc]
  by_cases h1 : i < 148
  · rw [List.getElem?_append_left (by omega), List.getElem?_append_left (by omega)]
  · rw [List.getElem?_append_right (by omega), List.getElem?_append_right (by omega), List.getElem?_append_right (by omega), List.getElem?_append_right (by omega), hx, hy]
theorem rfit (s : List UInt8) (w : Int) : (rfield_m s w).2 = decide (((s.length : Nat) : Int) ≤ w ∧ ib_m s 0 < 0) := by
  rw [rfield_is]
  by_cases h : ((s.length : Nat) : Int) ≤ w ∧ ib_m s 0 < 0
  · rw [if_pos h, decide_eq_true h]
  · rw [if_neg h, decide_eq_false h]
theorem rfill (s : List UInt8) (w : Int) (h : ((s.length : Nat) : Int) ≤ w ∧ ib_m s 0 < 0) : (rfield_m s w).1 = fill_m s w := by rw [rfield_is, if_pos h]
theorem enc_is (h : Hdr) : hencode_m h = rencode_m h := by
  unfold hencode_m rencode_m
  rw [rfit, rfit, rfit]
  by_cases h1 : ((h.name.length : Nat) : Int) ≤ 100 ∧ ib_m h.name 0 < 0
  case neg => rw [if_pos h1, decide_eq_false h1]; rfl
  by_cases h2 : ((h.link.length : Nat) : Int) ≤ 100 ∧ ib_m h.link 0 < 0
  case neg => rw [if_neg (fun c => c h1), if_pos h2, decide_eq_true h1, decide_eq_false h2]; rfl
  by_cases h3 : ((h.pfx.length : Nat) : Int) ≤ 155 ∧ ib_m h.pfx 0 < 0
  case neg => rw [if_neg (fun c => c h1), if_neg (fun c => c h2), if_pos h3, decide_eq_true h1, decide_eq_true h2, decide_eq_false h3]; rfl
  rw [if_neg (show ¬ ¬ (((h.name.length : Nat) : Int) ≤ 100 ∧ ib_m h.name 0 < 0) from fun c => c h1), if_neg (show ¬ ¬ (((h.link.length : Nat) : Int) ≤ 100 ∧ ib_m h.link 0 < 0) from fun c => c h2), if_neg (show ¬ ¬ (((h.pfx.length : Nat) : Int) ≤ 155 ∧ ib_m h.pfx 0 < 0) from fun c => c h3), decide_eq_true h1, decide_eq_true h2, decide_eq_true h3]
  rw [if_neg (show ¬ (!true) = true by decide), if_neg (show ¬ (!true) = true by decide), if_neg (show ¬ (!true) = true by decide)]
  by_cases c0 : (rput_m h.mode 8).2 = 0
  case neg =>
    have a : hencode_m_l0 h (5 - 0 + 1) ((fill_m h.name 100), 0) = .inr ([], (rput_m h.mode 8).2) := by
      show hencode_m_b0 h (hencode_m_l0 h 5) (fill_m h.name 100) 0 = _
      unfold hencode_m_b0
      rw [if_pos (by decide), if_pos rfl, put_is, if_pos (show ¬ (rput_m h.mode 8).2 = 0 from c0)] <;> rfl
    have b : rnums_m_l0 h (5 - 0 + 1) (0, [], [], [], [], [], [], [], [], [], []) = .inr (A56.mk [] [] [] [] [], (rput_m h.mode 8).2) := by
      show rnums_m_b0 h (rnums_m_l0 h 5) 0 [] [] [] [] [] [] [] [] [] [] = _
      unfold rnums_m_b0
      rw [if_pos (by decide), if_pos rfl, if_pos (show ¬ (rput_m h.mode 8).2 = 0 from c0)] <;> rfl
    have e : (rnums_m h).2 = (rput_m h.mode 8).2 := by
      unfold rnums_m
      rw [b]
      rfl
    rw [a, e, if_pos c0]
    rfl
  have a0 : hencode_m_l0 h (5 - 0 + 1) ((fill_m h.name 100), 0) = hencode_m_l0 h 5 ((fill_m h.name 100 ++ (rput_m h.mode 8).1), 1) := by
    show hencode_m_b0 h (hencode_m_l0 h 5) (fill_m h.name 100) 0 = _
    unfold hencode_m_b0
    rw [if_pos (by decide), if_pos rfl, put_is, if_neg (show ¬ ¬ (rput_m h.mode 8).2 = 0 from fun c => c c0)] <;> rfl
  have b0 : rnums_m_l0 h (5 - 0 + 1) (0, [], [], [], [], [], [], [], [], [], []) = rnums_m_l0 h 5 (1, [], [], [], [], [], (rput_m h.mode 8).1, [], [], [], []) := by
    show rnums_m_b0 h (rnums_m_l0 h 5) 0 [] [] [] [] [] [] [] [] [] [] = _
    unfold rnums_m_b0
    rw [if_pos (by decide), if_pos rfl, if_neg (show ¬ ¬ (rput_m h.mode 8).2 = 0 from fun c => c c0)] <;> rfl
  rw [a0]
  by_cases c1 : (rput_m h.uid 8).2 = 0
  case neg =>
    have a : hencode_m_l0 h 5 ((fill_m h.name 100 ++ (rput_m h.mode 8).1), 1) = .inr ([], (rput_m h.uid 8).2) := by
      show hencode_m_b0 h (hencode_m_l0 h 4) (fill_m h.name 100 ++ (rput_m h.mode 8).1) 1 = _
      unfold hencode_m_b0
      rw [if_pos (by decide), if_neg (by decide), if_pos rfl, put_is, if_pos (show ¬ (rput_m h.uid 8).2 = 0 from c1)] <;> rfl
    have b : rnums_m_l0 h 5 (1, [], [], [], [], [], (rput_m h.mode 8).1, [], [], [], []) = .inr (A56.mk ((rput_m h.mode 8).1) [] [] [] [], (rput_m h.uid 8).2) := by
      show rnums_m_b0 h (rnums_m_l0 h 4) 1 [] [] [] [] [] ((rput_m h.mode 8).1) [] [] [] [] = _
      unfold rnums_m_b0
      rw [if_pos (by decide), if_neg (by decide), if_pos rfl, if_pos (show ¬ (rput_m h.uid 8).2 = 0 from c1)] <;> rfl
    have e : (rnums_m h).2 = (rput_m h.uid 8).2 := by
      unfold rnums_m
      rw [b0, b]
      rfl
    rw [a, e, if_pos c1]
    rfl
  have a1 : hencode_m_l0 h 5 ((fill_m h.name 100 ++ (rput_m h.mode 8).1), 1) = hencode_m_l0 h 4 (((fill_m h.name 100 ++ (rput_m h.mode 8).1) ++ (rput_m h.uid 8).1), 2) := by
    show hencode_m_b0 h (hencode_m_l0 h 4) (fill_m h.name 100 ++ (rput_m h.mode 8).1) 1 = _
    unfold hencode_m_b0
    rw [if_pos (by decide), if_neg (by decide), if_pos rfl, put_is, if_neg (show ¬ ¬ (rput_m h.uid 8).2 = 0 from fun c => c c1)] <;> rfl
  have b1 : rnums_m_l0 h 5 (1, [], [], [], [], [], (rput_m h.mode 8).1, [], [], [], []) = rnums_m_l0 h 4 (2, [], [], [], [], [], (rput_m h.mode 8).1, (rput_m h.uid 8).1, [], [], []) := by
    show rnums_m_b0 h (rnums_m_l0 h 4) 1 [] [] [] [] [] ((rput_m h.mode 8).1) [] [] [] [] = _
    unfold rnums_m_b0
    rw [if_pos (by decide), if_neg (by decide), if_pos rfl, if_neg (show ¬ ¬ (rput_m h.uid 8).2 = 0 from fun c => c c1)] <;> rfl
  rw [a1]
  by_cases c2 : (rput_m h.gid 8).2 = 0
  case neg =>
    have a : hencode_m_l0 h 4 (((fill_m h.name 100 ++ (rput_m h.mode 8).1) ++ (rput_m h.uid 8).1), 2) = .inr ([], (rput_m h.gid 8).2) := by
      show hencode_m_b0 h (hencode_m_l0 h 3) ((fill_m h.name 100 ++ (rput_m h.mode 8).1) ++ (rput_m h.uid 8).1) 2 = _
      unfold hencode_m_b0
      rw [if_pos (by decide), if_neg (by decide), if_neg (by decide), if_pos rfl, put_is, if_pos (show ¬ (rput_m h.gid 8).2 = 0 from c2)] <;> rfl
    have b : rnums_m_l0 h 4 (2, [], [], [], [], [], (rput_m h.mode 8).1, (rput_m h.uid 8).1, [], [], []) = .inr (A56.mk ((rput_m h.mode 8).1) ((rput_m h.uid 8).1) [] [] [], (rput_m h.gid 8).2) := by
      show rnums_m_b0 h (rnums_m_l0 h 3) 2 [] [] [] [] [] ((rput_m h.mode 8).1) ((rput_m h.uid 8).1) [] [] [] = _
      unfold rnums_m_b0
      rw [if_pos (by decide), if_neg (by decide), if_neg (by decide), if_pos rfl, if_pos (show ¬ (rput_m h.gid 8).2 = 0 from c2)] <;> rfl
    have e : (rnums_m h).2 = (rput_m h.gid 8).2 := by
      unfold rnums_m
      rw [b0, b1, b]
      rfl
    rw [a, e, if_pos c2]
    rfl
  have a2 : hencode_m_l0 h 4 (((fill_m h.name 100 ++ (rput_m h.mode 8).1) ++ (rput_m h.uid 8).1), 2) = hencode_m_l0 h 3 ((((fill_m h.name 100 ++ (rput_m h.mode 8).1) ++ (rput_m h.uid 8).1) ++ (rput_m h.gid 8).1), 3) := by
    show hencode_m_b0 h (hencode_m_l0 h 3) ((fill_m h.name 100 ++ (rput_m h.mode 8).1) ++ (rput_m h.uid 8).1) 2 = _
    unfold hencode_m_b0
    rw [if_pos (by decide), if_neg (by decide), if_neg (by decide), if_pos rfl, put_is, if_neg (show ¬ ¬ (rput_m h.gid 8).2 = 0 from fun c => c c2)] <;> rfl
  have b2 : rnums_m_l0 h 4 (2, [], [], [], [], [], (rput_m h.mode 8).1, (rput_m h.uid 8).1, [], [], []) = rnums_m_l0 h 3 (3, [], [], [], [], [], (rput_m h.mode 8).1, (rput_m h.uid 8).1, (rput_m h.gid 8).1, [], []) := by
    show rnums_m_b0 h (rnums_m_l0 h 3) 2 [] [] [] [] [] ((rput_m h.mode 8).1) ((rput_m h.uid 8).1) [] [] [] = _
    unfold rnums_m_b0
    rw [if_pos (by decide), if_neg (by decide), if_neg (by decide), if_pos rfl, if_neg (show ¬ ¬ (rput_m h.gid 8).2 = 0 from fun c => c c2)] <;> rfl
  rw [a2]
  by_cases c3 : (rput_m h.size 12).2 = 0
  case neg =>
    have a : hencode_m_l0 h 3 ((((fill_m h.name 100 ++ (rput_m h.mode 8).1) ++ (rput_m h.uid 8).1) ++ (rput_m h.gid 8).1), 3) = .inr ([], (rput_m h.size 12).2) := by
      show hencode_m_b0 h (hencode_m_l0 h 2) (((fill_m h.name 100 ++ (rput_m h.mode 8).1) ++ (rput_m h.uid 8).1) ++ (rput_m h.gid 8).1) 3 = _
      unfold hencode_m_b0
      rw [if_pos (by decide), if_neg (by decide), if_neg (by decide), if_neg (by decide), if_pos rfl, put_is, if_pos (show ¬ (rput_m h.size 12).2 = 0 from c3)] <;> rfl
    have b : rnums_m_l0 h 3 (3, [], [], [], [], [], (rput_m h.mode 8).1, (rput_m h.uid 8).1, (rput_m h.gid 8).1, [], []) = .inr (A56.mk ((rput_m h.mode 8).1) ((rput_m h.uid 8).1) ((rput_m h.gid 8).1) [] [], (rput_m h.size 12).2) := by
      show rnums_m_b0 h (rnums_m_l0 h 2) 3 [] [] [] [] [] ((rput_m h.mode 8).1) ((rput_m h.uid 8).1) ((rput_m h.gid 8).1) [] [] = _
      unfold rnums_m_b0
      rw [if_pos (by decide), if_neg (by decide), if_neg (by decide), if_neg (by decide), if_pos rfl, if_pos (show ¬ (rput_m h.size 12).2 = 0 from c3)] <;> rfl
    have e : (rnums_m h).2 = (rput_m h.size 12).2 := by
      unfold rnums_m
      rw [b0, b1, b2, b]
      rfl
    rw [a, e, if_pos c3]
    rfl
  have a3 : hencode_m_l0 h 3 ((((fill_m h.name 100 ++ (rput_m h.mode 8).1) ++ (rput_m h.uid 8).1) ++ (rput_m h.gid 8).1), 3) = hencode_m_l0 h 2 (((((fill_m h.name 100 ++ (rput_m h.mode 8).1) ++ (rput_m h.uid 8).1) ++ (rput_m h.gid 8).1) ++ (rput_m h.size 12).1), 4) := by
    show hencode_m_b0 h (hencode_m_l0 h 2) (((fill_m h.name 100 ++ (rput_m h.mode 8).1) ++ (rput_m h.uid 8).1) ++ (rput_m h.gid 8).1) 3 = _
    unfold hencode_m_b0
    rw [if_pos (by decide), if_neg (by decide), if_neg (by decide), if_neg (by decide), if_pos rfl, put_is, if_neg (show ¬ ¬ (rput_m h.size 12).2 = 0 from fun c => c c3)] <;> rfl
  have b3 : rnums_m_l0 h 3 (3, [], [], [], [], [], (rput_m h.mode 8).1, (rput_m h.uid 8).1, (rput_m h.gid 8).1, [], []) = rnums_m_l0 h 2 (4, [], [], [], [], [], (rput_m h.mode 8).1, (rput_m h.uid 8).1, (rput_m h.gid 8).1, (rput_m h.size 12).1, []) := by
    show rnums_m_b0 h (rnums_m_l0 h 2) 3 [] [] [] [] [] ((rput_m h.mode 8).1) ((rput_m h.uid 8).1) ((rput_m h.gid 8).1) [] [] = _
    unfold rnums_m_b0
    rw [if_pos (by decide), if_neg (by decide), if_neg (by decide), if_neg (by decide), if_pos rfl, if_neg (show ¬ ¬ (rput_m h.size 12).2 = 0 from fun c => c c3)] <;> rfl
  rw [a3]
  by_cases c4 : (rput_m h.time 12).2 = 0
  case neg =>
    have a : hencode_m_l0 h 2 (((((fill_m h.name 100 ++ (rput_m h.mode 8).1) ++ (rput_m h.uid 8).1) ++ (rput_m h.gid 8).1) ++ (rput_m h.size 12).1), 4) = .inr ([], (rput_m h.time 12).2) := by
      show hencode_m_b0 h (hencode_m_l0 h 1) ((((fill_m h.name 100 ++ (rput_m h.mode 8).1) ++ (rput_m h.uid 8).1) ++ (rput_m h.gid 8).1) ++ (rput_m h.size 12).1) 4 = _
      unfold hencode_m_b0
      rw [if_pos (by decide), if_neg (by decide), if_neg (by decide), if_neg (by decide), if_neg (by decide), put_is, if_pos (show ¬ (rput_m h.time 12).2 = 0 from c4)] <;> rfl
    have b : rnums_m_l0 h 2 (4, [], [], [], [], [], (rput_m h.mode 8).1, (rput_m h.uid 8).1, (rput_m h.gid 8).1, (rput_m h.size 12).1, []) = .inr (A56.mk ((rput_m h.mode 8).1) ((rput_m h.uid 8).1) ((rput_m h.gid 8).1) ((rput_m h.size 12).1) [], (rput_m h.time 12).2) := by
      show rnums_m_b0 h (rnums_m_l0 h 1) 4 [] [] [] [] [] ((rput_m h.mode 8).1) ((rput_m h.uid 8).1) ((rput_m h.gid 8).1) ((rput_m h.size 12).1) [] = _
      unfold rnums_m_b0
      rw [if_pos (by decide), if_neg (by decide), if_neg (by decide), if_neg (by decide), if_neg (by decide), if_pos (show ¬ (rput_m h.time 12).2 = 0 from c4)] <;> rfl
    have e : (rnums_m h).2 = (rput_m h.time 12).2 := by
      unfold rnums_m
      rw [b0, b1, b2, b3, b]
      rfl
    rw [a, e, if_pos c4]
    rfl
  have a4 : hencode_m_l0 h 2 (((((fill_m h.name 100 ++ (rput_m h.mode 8).1) ++ (rput_m h.uid 8).1) ++ (rput_m h.gid 8).1) ++ (rput_m h.size 12).1), 4) = hencode_m_l0 h 1 ((((((fill_m h.name 100 ++ (rput_m h.mode 8).1) ++ (rput_m h.uid 8).1) ++ (rput_m h.gid 8).1) ++ (rput_m h.size 12).1) ++ (rput_m h.time 12).1), 5) := by
    show hencode_m_b0 h (hencode_m_l0 h 1) ((((fill_m h.name 100 ++ (rput_m h.mode 8).1) ++ (rput_m h.uid 8).1) ++ (rput_m h.gid 8).1) ++ (rput_m h.size 12).1) 4 = _
    unfold hencode_m_b0
    rw [if_pos (by decide), if_neg (by decide), if_neg (by decide), if_neg (by decide), if_neg (by decide), put_is, if_neg (show ¬ ¬ (rput_m h.time 12).2 = 0 from fun c => c c4)] <;> rfl
  have b4 : rnums_m_l0 h 2 (4, [], [], [], [], [], (rput_m h.mode 8).1, (rput_m h.uid 8).1, (rput_m h.gid 8).1, (rput_m h.size 12).1, []) = rnums_m_l0 h 1 (5, [], [], [], [], [], (rput_m h.mode 8).1, (rput_m h.uid 8).1, (rput_m h.gid 8).1, (rput_m h.size 12).1, (rput_m h.time 12).1) := by
    show rnums_m_b0 h (rnums_m_l0 h 1) 4 [] [] [] [] [] ((rput_m h.mode 8).1) ((rput_m h.uid 8).1) ((rput_m h.gid 8).1) ((rput_m h.size 12).1) [] = _
    unfold rnums_m_b0
    rw [if_pos (by decide), if_neg (by decide), if_neg (by decide), if_neg (by decide), if_neg (by decide), if_neg (show ¬ ¬ (rput_m h.time 12).2 = 0 from fun c => c c4)] <;> rfl
  rw [a4]
  have a5 : hencode_m_l0 h 1 ((((((fill_m h.name 100 ++ (rput_m h.mode 8).1) ++ (rput_m h.uid 8).1) ++ (rput_m h.gid 8).1) ++ (rput_m h.size 12).1) ++ (rput_m h.time 12).1), 5) = .inl ((((((fill_m h.name 100 ++ (rput_m h.mode 8).1) ++ (rput_m h.uid 8).1) ++ (rput_m h.gid 8).1) ++ (rput_m h.size 12).1) ++ (rput_m h.time 12).1), 5) := by
    show hencode_m_b0 h (hencode_m_l0 h 0) (((((fill_m h.name 100 ++ (rput_m h.mode 8).1) ++ (rput_m h.uid 8).1) ++ (rput_m h.gid 8).1) ++ (rput_m h.size 12).1) ++ (rput_m h.time 12).1) 5 = _
    unfold hencode_m_b0
    rw [if_neg (by decide)]
  have b5 : rnums_m_l0 h 1 (5, [], [], [], [], [], (rput_m h.mode 8).1, (rput_m h.uid 8).1, (rput_m h.gid 8).1, (rput_m h.size 12).1, (rput_m h.time 12).1) = .inl (5, [], [], [], [], [], (rput_m h.mode 8).1, (rput_m h.uid 8).1, (rput_m h.gid 8).1, (rput_m h.size 12).1, (rput_m h.time 12).1) := by
    show rnums_m_b0 h (rnums_m_l0 h 0) 5 [] [] [] [] [] ((rput_m h.mode 8).1) ((rput_m h.uid 8).1) ((rput_m h.gid 8).1) ((rput_m h.size 12).1) ((rput_m h.time 12).1) = _
    unfold rnums_m_b0
    rw [if_neg (by decide)]
  have e : rnums_m h = (A56.mk ((rput_m h.mode 8).1) ((rput_m h.uid 8).1) ((rput_m h.gid 8).1) ((rput_m h.size 12).1) ((rput_m h.time 12).1), 0) := by
    unfold rnums_m
    rw [b0, b1, b2, b3, b4, b5]
    rfl
  rw [a5, e, if_neg (show ¬ ¬ (0 : Int) = 0 by decide), rfill _ _ h1, rfill _ _ h2, rfill _ _ h3, rfill [] 80 (by decide), rfill [] 12 (by decide), rsum_is, ← octal_is]
  have l0 := put_len h.mode 8
  rw [put_is] at l0
  have l1 := put_len h.uid 8
  rw [put_is] at l1
  have l2 := put_len h.gid 8
  rw [put_is] at l2
  have l3 := put_len h.size 12
  rw [put_is] at l3
  have l4 := put_len h.time 12
  rw [put_is] at l4
  have lf := fill_len h.name 100 h1.1
  have hA : ((((((fill_m h.name 100 ++ (rput_m h.mode 8).1) ++ (rput_m h.uid 8).1) ++ (rput_m h.gid 8).1) ++ (rput_m h.size 12).1) ++ (rput_m h.time 12).1)).length = 148 := by
    simp only [List.length_append]
    omega
  show hencode_m_k0 h (((((fill_m h.name 100 ++ (rput_m h.mode 8).1) ++ (rput_m h.uid 8).1) ++ (rput_m h.gid 8).1) ++ (rput_m h.size 12).1) ++ (rput_m h.time 12).1) 5 = _
  unfold hencode_m_k0
  rw [hsum_mid _ (fill_m [] 8) [32, 32, 32, 32, 32, 32, 32, 32] _ hA rfl rfl]
end Go.Proofs.YtglnifckngcpkaaDoor.Hd
