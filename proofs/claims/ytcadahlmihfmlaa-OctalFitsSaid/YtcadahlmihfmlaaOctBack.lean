/- What was put into a field is got from it: plain facts, no program. -/
import Derived.Test.YtcadahlmihfmlaaOctLaw
namespace Go.Proofs.Ytcadahlmihfmlaa.Oct

theorem oct_acc (n : Nat) : ∀ (k m : Nat), m * 8 ^ k + n % 8 ^ k < 9223372036854775808 → acc 8 48 m (oct n k) = some (m * 8 ^ k + n % 8 ^ k)
  | 0, m, _ => by simp [oct, acc, Nat.mod_one]
  | k + 1, m, h => by
    have e : m * 8 ^ (k + 1) + n % 8 ^ (k + 1) = (m * 8 + cur n k % 8) * 8 ^ k + n % 8 ^ k := by
      rw [Nat.mod_pow_succ, Nat.pow_succ, Nat.add_mul]
      unfold cur
      rw [Nat.mul_comm (8 ^ k) 8, ← Nat.mul_assoc, Nat.mul_comm (8 ^ k) (n / 8 ^ k % 8)]
      omega
    rw [e] at h ⊢
    have hp : 0 < 8 ^ k := Nat.pow_pos (by omega)
    have hle : m * 8 + cur n k % 8 ≤ (m * 8 + cur n k % 8) * 8 ^ k := Nat.le_mul_of_pos_right _ hp
    rw [oct, acc, dg_toNat, show 48 + cur n k % 8 - 48 = cur n k % 8 by omega, if_neg (by omega)]
    exact oct_acc n k _ h
theorem byt_acc (n : Nat) : ∀ (k m : Nat), m * 256 ^ k + n % 256 ^ k < 9223372036854775808 → acc 256 0 m (byt n k) = some (m * 256 ^ k + n % 256 ^ k)
  | 0, m, _ => by simp [byt, acc, Nat.mod_one]
  | k + 1, m, h => by
    have e : m * 256 ^ (k + 1) + n % 256 ^ (k + 1) = (m * 256 + curb n k % 256) * 256 ^ k + n % 256 ^ k := by
      rw [Nat.mod_pow_succ, Nat.pow_succ, Nat.add_mul]
      unfold curb
      rw [Nat.mul_comm (256 ^ k) 256, ← Nat.mul_assoc, Nat.mul_comm (256 ^ k) (n / 256 ^ k % 256)]
      omega
    rw [e] at h ⊢
    have hp : 0 < 256 ^ k := Nat.pow_pos (by omega)
    have hle : m * 256 + curb n k % 256 ≤ (m * 256 + curb n k % 256) * 256 ^ k := Nat.le_mul_of_pos_right _ hp
    rw [byt, acc, UInt8.toNat_ofNat', show curb n k % 2 ^ 8 - 0 = curb n k % 256 by omega, if_neg (by omega)]
    exact byt_acc n k _ h
theorem cur_zero_iff (n k : Nat) : cur n k = 0 ↔ n < 8 ^ k := by
  unfold cur
  have hp : 0 < 8 ^ k := Nat.pow_pos (by omega)
  rw [Nat.div_eq_zero_iff]; omega
theorem curb_zero_iff (n k : Nat) : curb n k = 0 ↔ n < 256 ^ k := by
  unfold curb
  have hp : 0 < 256 ^ k := Nat.pow_pos (by omega)
  rw [Nat.div_eq_zero_iff]; omega
theorem oct_num {n k : Nat} (hn : n < 9223372036854775808) (h : n < 8 ^ k) : acc 8 48 0 (oct n k) = some n := by
  have := oct_acc n k 0 (by rw [Nat.mod_eq_of_lt h]; omega)
  rw [this, Nat.mod_eq_of_lt h]; simp
theorem byt_num {n k : Nat} (hn : n < 9223372036854775808) (h : n < 256 ^ k) : acc 256 0 0 (byt n k) = some n := by
  have := byt_acc n k 0 (by rw [Nat.mod_eq_of_lt h]; omega)
  rw [this, Nat.mod_eq_of_lt h]; simp
theorem dg_dig (m : Nat) : isDig (dg m) = true := by unfold isDig; rw [dg_toNat]; simp; omega
theorem digs_oct (n k : Nat) (r : List UInt8) (hr : digs r = [] ∧ rest r = r) : digs (oct n k ++ r) = oct n k ∧ rest (oct n k ++ r) = r := by
  induction k with
  | zero => exact hr
  | succ k ih =>
    unfold digs rest at *
    rw [oct, List.cons_append, List.takeWhile_cons, if_pos (dg_dig _), List.dropWhile_cons, if_pos (dg_dig _)]
    exact ⟨by rw [ih.1], ih.2⟩
theorem dg_ne (m : Nat) (c : UInt8) (hc : c.toNat < 48 ∨ 55 < c.toNat) : dg m ≠ c := by
  intro e; have := dg_toNat m; rw [e] at this; omega
theorem skip_oct (n k : Nat) (r : List UInt8) : skip (oct n (k + 1) ++ r) = oct n (k + 1) ++ r := by
  unfold skip
  rw [oct, List.cons_append, List.dropWhile_cons, if_neg (by rw [beq_iff_eq]; exact dg_ne _ _ (.inl (by decide)))]
theorem getR_octs {n k : Nat} (r : List UInt8) (hr : digs r = [] ∧ rest r = r) (hb : blank r = true) (hn : n < 9223372036854775808) (h : n < 8 ^ (k + 1)) : getR (oct n (k + 1) ++ r) = ((n : Int), 0) := by
  obtain ⟨d1, d2⟩ := digs_oct n (k + 1) r hr
  rw [getR_oct _ (by rw [oct, List.cons_append, List.head?_cons, Option.some_inj]; exact dg_ne _ _ (.inr (by decide)))]
  exact getO_fine (skip_oct n k r) (by rw [d1]; exact oct_num hn h) (by rw [d1, oct]; simp) (by rw [d2]; exact hb)
theorem getR_byts {n k : Nat} (hn : n < 9223372036854775808) (h : n < 256 ^ k) : getR (128 :: byt n k) = ((n : Int), 0) := by
  unfold getR
  rw [if_pos (by rfl), List.tail_cons, byt_num hn h]; rfl
/-- What was put is got. -/
theorem put_back {n W : Int} (hn : n < 9223372036854775808) (h : pE n W = 0) : getR (pS n W) = (n, 0) ∧ (pS n W).length = W.toNat := by
  have hc : ¬ (n < 0 ∨ W ≠ 8 ∧ W ≠ 12) := by
    intro hc; unfold pE at h; rw [if_pos hc] at h; omega
  unfold pE at h
  unfold pS
  rw [if_neg hc] at h ⊢
  obtain ⟨n, rfl⟩ := Int.eq_ofNat_of_zero_le (show 0 ≤ n by omega)
  unfold putE at h
  unfold putS
  rw [Int.toNat_natCast] at h ⊢
  obtain ⟨V, hV⟩ : ∃ V, W.toNat - 1 = V + 1 := ⟨W.toNat - 2, by omega⟩
  have hVW : W.toNat = V + 2 := by omega
  rw [hV] at h ⊢
  by_cases h1 : cur n (V + 1) = 0
  · rw [if_pos h1]
    exact ⟨getR_octs [0] ⟨by decide, by decide⟩ (by decide) (by omega) ((cur_zero_iff _ _).1 h1), by rw [List.length_append, oct_length, hVW]; rfl⟩
  · rw [if_neg h1] at h ⊢
    by_cases h2 : curb n (V + 1) = 0
    · rw [if_pos h2]
      exact ⟨getR_byts (by omega) ((curb_zero_iff _ _).1 h2), by rw [List.length_cons, byt_length, hVW]⟩
    · rw [if_neg h2] at h; omega
/-- What was not put: nothing stands there, and why. -/
theorem put_none {n W : Int} (hn : n < 9223372036854775808) (hW : W = 8 ∨ W = 12) (h : pE n W ≠ 0) : pS n W = [] ∧ (n < 0 ∨ W = 8 ∧ 72057594037927936 ≤ n) := by
  by_cases hc : n < 0 ∨ W ≠ 8 ∧ W ≠ 12
  · unfold pS; rw [if_pos hc]; exact ⟨rfl, .inl (by omega)⟩
  · unfold pE at h
    unfold pS
    rw [if_neg hc] at h ⊢
    obtain ⟨n, rfl⟩ := Int.eq_ofNat_of_zero_le (show 0 ≤ n by omega)
    unfold putE at h
    unfold putS
    rw [Int.toNat_natCast] at h ⊢
    by_cases h1 : cur n (W.toNat - 1) = 0
    · rw [if_pos h1] at h; exact absurd rfl h
    · rw [if_neg h1] at h ⊢
      by_cases h2 : curb n (W.toNat - 1) = 0
      · rw [if_pos h2] at h; exact absurd rfl h
      · rw [if_neg h2]
        refine ⟨rfl, .inr ?_⟩
        rw [curb_zero_iff] at h2
        rcases hW with rfl | rfl
        · have e : (256 : Nat) ^ ((8 : Int).toNat - 1) = 72057594037927936 := by decide
          rw [e] at h2; omega
        · have e : (256 : Nat) ^ ((12 : Int).toNat - 1) = 309485009821345068724781056 := by decide
          rw [e] at h2; omega
theorem oct_neg {n : Int} {k : Nat} (h : n < 0) : oS n k = [] ∧ oB n k = false := by
  unfold oS oB; rw [if_pos (.inl h), if_pos (.inl h)]; exact ⟨rfl, rfl⟩
def p8 (k : Nat) : Nat := 8 ^ k
theorem p8_zero : p8 0 = 1 := rfl
theorem p8_succ (k : Nat) : p8 (k + 1) = 8 * p8 k := by unfold p8; rw [Nat.pow_succ, Nat.mul_comm]
theorem p8_le {k : Nat} (h : k ≤ 20) : p8 k ≤ 1152921504606846976 := by
  have := Nat.pow_le_pow_right (show 0 < 8 by omega) h
  unfold p8; exact this
theorem oct_fits {n : Int} {k : Nat} (hn : n < 9223372036854775808) (h0 : ¬ n < 0) (hk : k ≤ 20) :
    (oS n k).length = k ∧ oB n k = decide (n < (p8 k : Int)) ∧ (n < (p8 k : Int) → k ≠ 0 → getR (oS n k) = (n, 0)) := by
  obtain ⟨n, rfl⟩ := Int.eq_ofNat_of_zero_le (show 0 ≤ n by omega)
  have hc : ¬ ((n : Int) < 0 ∨ (k : Int) < 0 ∨ 22 < (k : Int)) := by omega
  unfold oS oB
  rw [if_neg hc, if_neg hc, Int.toNat_natCast, Int.toNat_natCast]
  refine ⟨oct_length _ _, ?_, ?_⟩
  · rw [Bool.eq_iff_iff, beq_iff_eq, decide_eq_true_iff]
    have := cur_zero_iff n k
    unfold p8; omega
  · intro h hk0
    obtain ⟨j, rfl⟩ := Nat.exists_eq_succ_of_ne_zero hk0
    have h' : n < 8 ^ (j + 1) := by unfold p8 at h; omega
    have := getR_octs (n := n) (k := j) [] ⟨rfl, rfl⟩ rfl (by omega) h'
    rw [List.append_nil] at this
    exact this
end Go.Proofs.Ytcadahlmihfmlaa.Oct
