/- Numbers in fields: what is put is got. -/
import Derived.Test.YtikmkgoeepgbkaaGreatDoorJf
set_option linter.all false
namespace Go.Proofs.YtikmkgoeepgbkaaGreatDoor.Ev
open Go.RowKit
open Go.Proofs.YtikmkgoeepgbkaaGreatDoor.Mem
set_option linter.unusedVariables false
set_option linter.unusedSimpArgs false
set_option maxRecDepth 100000
/-- The number that digits of a base say. -/
def valD (base zr : Nat) : List UInt8 → Nat → Nat
  | [], a => a
  | b :: r, a => valD base zr r (a * base + (b.toNat + 256 - zr) % 256)
theorem valD_ge (base zr : Nat) (hb : 1 ≤ base) : ∀ s a, a ≤ valD base zr s a
  | [], a => Nat.le_refl _
  | b :: r, a => Nat.le_trans (Nat.le_trans (Nat.le_mul_of_pos_right a hb) (Nat.le_add_right _ _)) (valD_ge base zr hb r _)
theorem numM_val (base zr : Nat) (hb : 1 ≤ base) : ∀ s a, valD base zr s a ≤ 9223372036854775807 → numM base zr s a = (valD base zr s a, 0)
  | [], a, _ => rfl
  | b :: r, a, h => by
    have h1 := valD_ge base zr hb r (a * base + (b.toNat + 256 - zr) % 256)
    have h2 : a ≤ (9223372036854775807 - (b.toNat + 256 - zr) % 256) / base := by
      rw [Nat.le_div_iff_mul_le hb]
      unfold valD at h
      omega
    unfold numM
    rw [if_neg (by omega)]
    exact numM_val base zr hb r _ h
theorem valD_app (base zr : Nat) : ∀ s t a, valD base zr (s ++ t) a = valD base zr t (valD base zr s a)
  | [], t, a => rfl
  | b :: r, t, a => valD_app base zr r t _
theorem octD_val : ∀ d n, valD 8 48 (octD d n) 0 = n % 8 ^ d
  | 0, n => by simp [octD, valD, Nat.mod_one]
  | d + 1, n => by
    rw [octD, valD_app, octD_val d (n / 8)]
    have h1 : (UInt8.ofNat (48 + n % 8)).toNat = 48 + n % 8 := by
      have : n % 8 < 8 := Nat.mod_lt _ (by omega)
      rw [UInt8.toNat_ofNat']
      exact Nat.mod_eq_of_lt (by omega)
    unfold valD valD
    rw [h1, Nat.pow_succ, Nat.mul_comm (8 ^ d), Nat.mod_mul]
    have : n % 8 < 8 := Nat.mod_lt _ (by omega)
    omega
/-- The last d bytes of n. -/
def bytD : Nat → Nat → List UInt8
  | 0, _ => []
  | d + 1, n => bytD d (n / 256) ++ [UInt8.ofNat n]
theorem bytD_len : ∀ d n, (bytD d n).length = d
  | 0, _ => rfl
  | d + 1, n => by simp [bytD, bytD_len d]
theorem bytD_val : ∀ d n, valD 256 0 (bytD d n) 0 = n % 256 ^ d
  | 0, n => by simp [bytD, valD, Nat.mod_one]
  | d + 1, n => by
    rw [bytD, valD_app, bytD_val d (n / 256)]
    have h1 : (UInt8.ofNat n).toNat = n % 256 := UInt8.toNat_ofNat'
    unfold valD valD
    rw [h1, Nat.pow_succ, Nat.mul_comm (256 ^ d), Nat.mod_mul]
    omega
theorem octB_of (m : Nat) (h : m < 8) : octB (UInt8.ofNat (48 + m)) = true := by
  have h1 : (UInt8.ofNat (48 + m)).toNat = 48 + m := by
    rw [UInt8.toNat_ofNat']
    exact Nat.mod_eq_of_lt (by omega)
  unfold octB
  rw [h1]
  simp; omega
theorem octD_oct : ∀ d n, ∀ b ∈ octD d n, octB b = true
  | 0, n, b, h => by simp [octD] at h
  | d + 1, n, b, h => by
    rw [octD] at h
    rcases List.mem_append.1 h with h | h
    · exact octD_oct d _ b h
    · rw [List.mem_singleton] at h
      rw [h]
      exact octB_of _ (Nat.mod_lt _ (by omega))
theorem tw_app {f : UInt8 → Bool} : ∀ {s t : List UInt8}, (∀ b ∈ s, f b = true) → (∀ b, t.head? = some b → f b = false) → (s ++ t).takeWhile f = s ∧ (s ++ t).dropWhile f = t
  | [], t, _, h2 => by
    cases t with
    | nil => exact ⟨rfl, rfl⟩
    | cons b t => have := h2 b rfl; simp [this]
  | b :: s, t, h1, h2 => by
    have hb := h1 b (by simp)
    obtain ⟨k1, k2⟩ := tw_app (s := s) (t := t) (fun x hx => h1 x (by simp [hx])) h2
    simp [hb, k1, k2]
/-- Octal digits, and behind them bytes 0 and blanks, are read as their number. -/
theorem getM_oct {d n : Nat} {t : List UInt8} (hd : 0 < d) (hd2 : d ≤ 20) (hn : n < 8 ^ d) (ht : blankB t = true) : getM (octD d n ++ t) = (n, 0) := by
  obtain ⟨k, rfl⟩ : ∃ k, d = k + 1 := ⟨d - 1, by omega⟩
  have hh := octD_hd k n
  have hm : n / 8 ^ k % 8 < 8 := Nat.mod_lt _ (by omega)
  have hb1 : (UInt8.ofNat (48 + n / 8 ^ k % 8)).toNat = 48 + n / 8 ^ k % 8 := by
    rw [UInt8.toNat_ofNat']
    exact Nat.mod_eq_of_lt (by omega)
  have hsp : spB (octD (k + 1) n ++ t) = octD (k + 1) n ++ t := by
    rw [hh, List.cons_append]
    unfold spB
    rw [List.dropWhile_cons, if_neg]
    simp only [decide_eq_true_eq]
    omega
  have ht2 : ∀ b, t.head? = some b → octB b = false := by
    intro b hb
    cases t with
    | nil => cases hb
    | cons x t =>
      simp at hb
      subst hb
      unfold blankB at ht
      rw [List.all_cons] at ht
      simp only [Bool.and_eq_true, Bool.or_eq_true, decide_eq_true_eq] at ht
      unfold octB
      rw [Bool.and_eq_false_iff]
      left
      rw [decide_eq_false_iff_not]
      omega
  obtain ⟨h1, h2⟩ := tw_app (f := octB) (octD_oct (k + 1) n) ht2
  have hv := octD_val (k + 1) n
  rw [Nat.mod_eq_of_lt hn] at hv
  have h20 : 8 ^ (k + 1) ≤ 8 ^ 20 := Nat.pow_le_pow_right (by omega) hd2
  have h20' : (8 : Nat) ^ 20 = 1152921504606846976 := by decide
  have hN := numM_val 8 48 (by omega) (octD (k + 1) n) 0 (by rw [hv]; omega)
  unfold getM
  rw [if_neg, hsp, h1, h2, hN, hv, if_neg (by simp), if_neg]
  · intro h
    rcases h with h | h
    · rw [hh] at h; cases h
    · rw [ht] at h; cases h
  · rintro ⟨_, h⟩
    rw [hh] at h
    have h : (UInt8.ofNat (48 + n / 8 ^ k % 8)).toNat = 128 := h
    omega
theorem getM_byt {d n : Nat} (hd : d ≤ 11) (hn : n < 256 ^ d) (hn2 : n < 9223372036854775808) : getM (128 :: bytD d n) = (n, 0) := by
  have hv := bytD_val d n
  rw [Nat.mod_eq_of_lt hn] at hv
  have hN := numM_val 256 0 (by omega) (bytD d n) 0 (by rw [hv]; omega)
  unfold getM
  rw [if_pos ⟨by simp, by rfl⟩, List.drop_succ_cons, List.drop_zero, hN, hv]
/-- A number as a field of so many bytes has it. -/
def putM (n w : Nat) : List UInt8 × Int := if n < 8 ^ (w - 1) then (octD (w - 1) n ++ [0], 0) else if n < 256 ^ (w - 1) then (128 :: bytD (w - 1) n, 0) else ([], 3)
theorem putM_len {n w : Nat} (hw : 1 ≤ w) (h : (putM n w).2 = 0) : (putM n w).1.length = w := by
  unfold putM at h ⊢
  split
  · simp [octD_len]; omega
  · rename_i e
    rw [if_neg e] at h
    split
    · simp [bytD_len]; omega
    · rename_i e2; rw [if_neg e2] at h; simp at h
theorem get_put {n w : Nat} (hw : 2 ≤ w) (hw2 : w ≤ 12) (hn : n < 9223372036854775808) (h : (putM n w).2 = 0) : getM (putM n w).1 = (n, 0) := by
  unfold putM at h ⊢
  split
  · rename_i e
    exact getM_oct (by omega) (by omega) e rfl
  · rename_i e
    rw [if_neg e] at h
    split
    · rename_i e2
      exact getM_byt (by omega) e2 hn
    · rename_i e2; rw [if_neg e2] at h; simp at h
end Go.Proofs.YtikmkgoeepgbkaaGreatDoor.Ev
