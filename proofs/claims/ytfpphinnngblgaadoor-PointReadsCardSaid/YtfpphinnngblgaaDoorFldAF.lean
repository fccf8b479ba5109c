/- Layer 3: squares and roots below 2^255 - 19. -/
import Derived.Test.YtfpphinnngblgaaDoorFldQ
import Derived.Test.YtfpphinnngblgaaDoorPrj
namespace Go.Proofs.YtfpphinnngblgaaDoor.Fld
open Go.Proofs.YtfpphinnngblgaaDoor.Pri

theorem pri : Pr PP := prime
theorem ppos : 0 < PP := by decide
theorem same_sq (u v : Nat) (h : u * u % PP = v * v % PP) : u % PP = v % PP ∨ u % PP = (PP - v % PP) % PP := by
  have key : ∀ u v : Nat, v ≤ u → u * u % PP = v * v % PP → PP ∣ u + v ∨ PP ∣ u - v := fun u v hle h => by
    have hd : PP ∣ u * u - v * v := Nat.dvd_of_mod_eq_zero (Nat.sub_mod_eq_zero_of_mod_eq h)
    rw [Nat.mul_self_sub_mul_self_eq] at hd
    exact pri.euclid hd
  have fin : ∀ u v : Nat, v ≤ u → PP ∣ u + v ∨ PP ∣ u - v → u % PP = v % PP ∨ (u + v) % PP = 0 := fun u v hle hd => by
    rcases hd with hd | ⟨c, hc⟩
    · exact .inr (Nat.mod_eq_zero_of_dvd hd)
    · refine .inl ?_
      rw [show u = v + PP * c by omega, Nat.add_mul_mod_self_left]
  have last : u % PP = v % PP ∨ (u + v) % PP = 0 := by
    rcases Nat.le_total v u with hle | hle
    · exact fin u v hle (key u v hle h)
    · rcases fin v u hle (key v u hle h.symm) with e | e
      · exact .inl e.symm
      · exact .inr (by rw [Nat.add_comm]; exact e)
  rcases last with e | e
  · exact .inl e
  · refine .inr ?_
    unfold PP at *
    omega
theorem opp_sq (v : Nat) : ((PP - v % PP) % PP) * ((PP - v % PP) % PP) % PP = v * v % PP := by
  rw [← Nat.mul_mod, Nat.mul_mod v v]
  have hl : v % PP < PP := Nat.mod_lt _ ppos
  generalize v % PP = x at *
  obtain ⟨y, hy⟩ : ∃ y, y = PP - x := ⟨_, rfl⟩
  rw [← hy]
  have hx : x = PP - y := by omega
  have hle : y ≤ PP := by omega
  have e : y * y + PP * x = x * x + PP * y := by
    have e1 : PP * x = (x + y) * x := by congr 1; omega
    have e2 : PP * y = (x + y) * y := by congr 1; omega
    rw [e1, e2, Nat.add_mul, Nat.add_mul, Nat.mul_comm y x]; omega
  have := congrArg (· % PP) e
  simp only [Nat.add_mul_mod_self_left] at this
  exact this
/-- What the root's square is, where it has one. -/
theorem rootV_sq (s : Nat) (h : rootOk s = true) : rootV s * rootV s % PP = s := by
  have h1 : rootR s * rootR s % PP = s := of_decide_eq_true h
  have hl : rootR s < PP := by
    unfold rootR rt2 rt1
    split
    · exact Nat.mod_lt _ ppos
    · exact Nat.mod_lt _ ppos
  unfold rootV
  rw [if_pos h]
  split
  · rename_i h2
    have := opp_sq (rootR s)
    rw [Nat.mod_eq_of_lt hl, Nat.mod_eq_of_lt (by omega : PP - rootR s < PP)] at this
    rw [this, h1]
  · exact h1
theorem rootV_even (s : Nat) (h : rootOk s = true) : rootV s % 2 = 0 := by
  have hl : rootR s < PP := by
    unfold rootR rt2 rt1
    split
    · exact Nat.mod_lt _ ppos
    · exact Nat.mod_lt _ ppos
  unfold rootV
  rw [if_pos h]
  split
  · unfold PP at *; omega
  · omega
def HP : Nat := 28948022309329048855892746252171976963317496166410141009864396001978282409974
theorem two_half : 2 ^ HP % PP = PP - 1 := by rw [pm_at _ _ (by decide)]; decide +kernel
theorem i_sq : (2 ^ K2 % PP) * (2 ^ K2 % PP) % PP = PP - 1 := by
  rw [← Nat.mul_mod, ← Nat.pow_add, show K2 + K2 = HP from by decide, two_half]
theorem rt1_four (s : Nat) : rt1 s * rt1 s * (rt1 s * rt1 s) % PP = s * s * s ^ HP % PP := by
  unfold rt1
  have e : (s ^ K1 % PP) * (s ^ K1 % PP) * ((s ^ K1 % PP) * (s ^ K1 % PP)) % PP = s ^ (K1 + K1 + (K1 + K1)) % PP := by
    rw [Nat.mul_mod, ← Nat.mul_mod (s ^ K1), ← Nat.mul_mod, Nat.pow_add, Nat.pow_add]
  rw [e, show K1 + K1 + (K1 + K1) = 1 + 1 + HP by decide, Nat.pow_add, Nat.pow_add, Nat.pow_one]
/-- A number whose half power is 1 has a root. -/
theorem rootOk_of (s : Nat) (hs : s < PP) (h : s ^ HP % PP = 1) : rootOk s = true := by
  have h4 := rt1_four s
  rw [Nat.mul_mod (s * s) (s ^ HP), h, Nat.mul_one, Nat.mod_mod] at h4
  unfold rootOk rootR
  by_cases h1 : rt1 s * rt1 s % PP = s
  · rw [if_pos h1]; exact decide_eq_true h1
  · rw [if_neg h1]
    refine decide_eq_true ?_
    rcases same_sq _ _ h4 with e | e
    · rw [Nat.mod_eq_of_lt hs] at e; exact absurd e h1
    · rw [Nat.mod_eq_of_lt hs] at e
      unfold rt2
      have h5 : ∀ r i : Nat, r * i % PP * (r * i % PP) % PP = (r * r % PP) * (i * i % PP) % PP := fun r i => by
        rw [← Nat.mul_mod, ← Nat.mul_mod, Nat.mul_assoc r i, Nat.mul_left_comm i r i, ← Nat.mul_assoc]
      rw [h5, i_sq, e]
      generalize rt1 s = r at *
      have h6 := opp_sq 1
      have e1 : (1 : Nat) % PP = 1 := by decide
      have e2 : (PP - 1) % PP = PP - 1 := by decide
      rw [e1, e2] at h6
      by_cases h0 : s = 0
      · subst h0; decide
      · have e3 : (PP - s) % PP = PP - s := Nat.mod_eq_of_lt (by omega)
        rw [e3]
        have e4 : (PP - s) * (PP - 1) + (PP - 1) * s = PP * (PP - 1) := by
          rw [Nat.mul_comm (PP - 1) s, ← Nat.add_mul]; congr 1; omega
        have e5 : s + (PP - 1) * s = PP * s := by
          have : (1 + (PP - 1)) * s = PP * s := by rw [show 1 + (PP - 1) = PP by decide]
          rw [Nat.add_mul, Nat.one_mul] at this; exact this
        have e6 : (PP - s) * (PP - 1) + PP * s = PP * (PP - 1) + s := by omega
        have e7 := congrArg (· % PP) e6
        simp only [Nat.add_mul_mod_self_left, Nat.mul_add_mod] at e7
        rw [e7, Nat.mod_eq_of_lt hs]
theorem rt1_zero : rt1 0 = 0 := by rw [rt_at]; decide +kernel
theorem rootR_of (s : Nat) (h : rt1 s * rt1 s % PP = s) : rootR s = rt1 s := by
  unfold rootR
  rw [if_pos h]
theorem rootR_zero : rootR 0 = 0 := by
  rw [rootR_of 0 (by rw [rt1_zero, Nat.zero_mul, Nat.zero_mod]), rt1_zero]
theorem rootOk_zero : rootOk 0 = true := by
  unfold rootOk
  rw [rootR_zero, Nat.zero_mul, Nat.zero_mod]
  exact decide_eq_true rfl
theorem rootV_zero : rootV 0 = 0 := by
  unfold rootV
  rw [if_pos rootOk_zero, rootR_zero, if_neg (by decide)]
/-- A root's number has 1 for its half power. -/
theorem half_of (s : Nat) (h0 : s ≠ 0) (h : rootOk s = true) : s ^ HP % PP = 1 := by
  have h1 : rootR s * rootR s % PP = s := of_decide_eq_true h
  generalize rootR s = r at *
  have hr : r % PP ≠ 0 := fun e => by
    rw [Nat.mul_mod, e, Nat.zero_mul, Nat.zero_mod] at h1
    exact h0 h1.symm
  have hf := pri.fermat hr
  rw [← h1, ← Nat.pow_mod, ← Nat.pow_two, ← Nat.pow_mul, show 2 * HP = PP - 1 by decide]
  exact hf
/-- Of a number and its double just one has a root, unless it is 0. -/
theorem root_twice (s : Nat) (hs : s < PP) (h0 : s ≠ 0) : rootOk (s * 2 % PP) = !rootOk s := by
  have hd : s * 2 % PP ≠ 0 := fun e => by
    rcases pri.euclid (Nat.dvd_of_mod_eq_zero e) with h | h
    · have := Nat.le_of_dvd (by omega) h; omega
    · exact absurd (Nat.le_of_dvd (by decide) h) (by decide)
  have hl : s * 2 % PP < PP := Nat.mod_lt _ ppos
  have e2 : (s * 2 % PP) ^ HP % PP = (s ^ HP % PP) * (PP - 1) % PP := by
    rw [← Nat.pow_mod, Nat.mul_pow, Nat.mul_mod, two_half]
  have hsq : (s ^ HP % PP) * (s ^ HP % PP) % PP = 1 * 1 % PP := by
    rw [← Nat.mul_mod, ← Nat.pow_add, show HP + HP = PP - 1 by decide, pri.fermat (by rw [Nat.mod_eq_of_lt hs]; exact h0)]
    decide
  rcases same_sq _ _ hsq with e | e
  · rw [Nat.mod_mod, show (1 : Nat) % PP = 1 by decide] at e
    rw [rootOk_of s hs e]
    cases hc : rootOk (s * 2 % PP) with
    | false => rfl
    | true =>
      have := half_of _ hd hc
      rw [e2, e] at this
      exact absurd this (by decide)
  · rw [Nat.mod_mod, show (PP - 1 % PP) % PP = PP - 1 by decide] at e
    rw [rootOk_of _ hl (by rw [e2, e]; decide)]
    cases hc : rootOk s with
    | false => rfl
    | true =>
      have := half_of _ h0 hc
      rw [e] at this
      exact absurd this (by decide)
theorem inv_one (a : Nat) (h : a % PP ≠ 0) : a * (a ^ (PP - 2) % PP) % PP = 1 := by
  have := pri.fermat h
  rw [Nat.mul_mod, Nat.mod_mod, ← Nat.mul_mod, ← Nat.pow_succ', show (PP - 2).succ = PP - 1 by decide]
  exact this
theorem square_root (a : Nat) : rootOk (a * a % PP) = true := by
  by_cases h : a % PP = 0
  · rw [Nat.mul_mod, h, Nat.zero_mul, Nat.zero_mod]; exact rootOk_zero
  · refine rootOk_of _ (Nat.mod_lt _ ppos) ?_
    rw [← Nat.pow_mod, ← Nat.pow_two, ← Nat.pow_mul, show 2 * HP = PP - 1 by decide]
    exact pri.fermat h
end Go.Proofs.YtfpphinnngblgaaDoor.Fld
