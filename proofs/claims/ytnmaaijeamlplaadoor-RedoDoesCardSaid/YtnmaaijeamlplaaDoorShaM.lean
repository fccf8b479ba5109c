import Derived.Test.YtnmaaijeamlplaaDoorShaA
set_option linter.unusedVariables false
set_option linter.unusedSimpArgs false
namespace Go.Proofs.YtnmaaijeamlplaaDoor.Sha
def sm0 (x : UInt32) : UInt32 := rl x (sOf (-7)) ^^^ rl x (sOf (-18)) ^^^ UInt32.ofNat (x.toNat / 8)
def sm1 (x : UInt32) : UInt32 := rl x (sOf (-17)) ^^^ rl x (sOf (-19)) ^^^ UInt32.ofNat (x.toNat / 1024)
def nxt (m : Nat → UInt32) (l : List UInt32) (n : Nat) : UInt32 :=
 if n < 16 then m n else l.getD (n - 16) 0 + sm0 (l.getD (n - 15) 0) + l.getD (n - 7) 0 + sm1 (l.getD (n - 2) 0)
def wl (m : Nat → UInt32) : Nat → List UInt32
 | 0 => []
 | n + 1 => wl m n ++ [nxt m (wl m n) n]
def W (m : Nat → UInt32) (j : Nat) : UInt32 := nxt m (wl m j) j
theorem wl_length (m : Nat → UInt32) (n : Nat) : (wl m n).length = n := by
 induction n with
 | zero => rfl
 | succ n ih => simp [wl, ih]
theorem W_get (m : Nat → UInt32) (n j : Nat) (h : j < n) : (wl m n).getD j 0 = W m j := by
 induction n with
 | zero => omega
 | succ n ih =>
  rw [wl, List.getD_eq_getElem?_getD]
  by_cases hj : j < n
  ·rw [List.getElem?_append_left (by rw [wl_length]; exact hj), ← List.getD_eq_getElem?_getD, ih hj]
  obtain rfl : j = n := by omega
  rw [List.getElem?_append_right (by rw [wl_length]; omega), wl_length]
  simp [W]
theorem W_lo (m : Nat → UInt32) (j : Nat) (h : j < 16) : W m j = m j := by
 unfold W nxt; rw [if_pos h]
theorem W_hi (m : Nat → UInt32) (p : Nat) : W m (p + 16) = W m p + sm0 (W m (p + 1)) + W m (p + 9) + sm1 (W m (p + 14)) := by
 have e : W m (p + 16) = nxt m (wl m (p + 16)) (p + 16) := rfl
 rw [e, nxt, if_neg (by omega), W_get m (p + 16) _ (by omega), W_get m (p + 16) _ (by omega), W_get m (p + 16) _ (by omega), W_get m (p + 16) _ (by omega)]
 rw [show p + 16 - 16 = p by omega, show p + 16 - 15 = p + 1 by omega, show p + 16 - 7 = p + 9 by omega, show p + 16 - 2 = p + 14 by omega]
end Go.Proofs.YtnmaaijeamlplaaDoor.Sha
