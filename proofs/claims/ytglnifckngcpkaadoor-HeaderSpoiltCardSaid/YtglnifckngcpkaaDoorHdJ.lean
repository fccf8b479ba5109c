/- Layer 8: the digits are the document's: the mathematics. -/
import Derived.Test.YtglnifckngcpkaaDoorHdI
import Derived.Test.YtglnifckngcpkaaDoorHdM
set_option linter.unusedVariables false
namespace Go.Proofs.YtglnifckngcpkaaDoor.Hd
open Go.Proofs.YtglnifckngcpkaaDoor.Mem
/-- The last digits. -/
def od : Nat → Int → List UInt8
  | 0, _ => []
  | d + 1, n => od d (n / 8) ++ [UInt8.ofNat ((48 : Int) + (n % (8 : Int))).toNat]
/-- What is left. -/
def oq : Nat → Int → Int
  | 0, n => n
  | d + 1, n => oq d (n / 8)
theorem od_len : ∀ d n, (od d n).length = d
  | 0, _ => rfl
  | d + 1, n => by unfold od; rw [List.length_append, od_len d, List.length_singleton]
theorem roct_l (n0 d : Int) : ∀ (j k : Nat) (x : Int) (s : List UInt8) (i : Nat), (i : Int) + j = d → j < k → roct_m_l0 n0 d k (x, s, i) = .inl (oq j x, od j x ++ s, i + j)
  | j, 0, x, s, i, h, hk => by omega
  | 0, k + 1, x, s, i, h, hk => by
    show roct_m_b0 n0 d (roct_m_l0 n0 d k) x s i = _
    unfold roct_m_b0
    rw [if_neg (by omega)]
    rfl
  | j + 1, k + 1, x, s, i, h, hk => by
    show roct_m_b0 n0 d (roct_m_l0 n0 d k) x s i = _
    unfold roct_m_b0
    rw [if_pos (by omega), roct_l n0 d j k _ _ (i + 1) (by omega) (by omega), show i + 1 + j = i + (j + 1) by omega]
    show Sum.inl (oq j (x / 8), od j (x / 8) ++ ([UInt8.ofNat ((48 : Int) + (x % (8 : Int))).toNat] ++ s), i + (j + 1)) = _
    rw [← List.append_assoc]
    rfl
theorem roct_is (n d : Int) (h0 : 0 ≤ n) (h1 : 0 ≤ d) (h2 : d ≤ 22) : roct_m n d = (od d.toNat n, decide (oq d.toNat n = 0)) := by
  unfold roct_m
  rw [if_neg (by omega), if_neg (by omega), if_neg (by omega), roct_l n d d.toNat _ n [] 0 (by omega) (by omega), List.append_nil]
  rfl
theorem roct_len (n d : Int) (h0 : 0 ≤ n) (h1 : 0 ≤ d) (h2 : d ≤ 22) : ((roct_m n d).1.length : Int) = d := by
  rw [roct_is n d h0 h1 h2]
  show ((od d.toNat n).length : Int) = d
  rw [od_len]
  omega
theorem octal_f (n0 d : Int) : ∀ (j k : Nat) (x : Int) (l : List UInt8), j ≤ l.length → j < k → octal_m_l0 n0 d k (x, (j : Int) - 1, l) = .inl (oq j x, -1, od j x ++ l.drop j)
  | j, 0, x, l, h, hk => by omega
  | 0, k + 1, x, l, h, hk => by
    show octal_m_b0 n0 d (octal_m_l0 n0 d k) x (((0 : Nat) : Int) - 1) l = _
    unfold octal_m_b0
    rw [if_neg (by omega)]
    rfl
  | j + 1, k + 1, x, l, h, hk => by
    show octal_m_b0 n0 d (octal_m_l0 n0 d k) x (((j + 1 : Nat) : Int) - 1) l = _
    unfold octal_m_b0
    rw [if_pos (by omega), show (((j + 1 : Nat) : Int) - 1) = (j : Int) by omega, octal_f n0 d j k _ _ (by rw [List.length_set]; omega) (by omega), Int.toNat_natCast]
    have e : (l.set j (UInt8.ofNat ((48 : Int) + (x % (8 : Int))).toNat)).drop j = UInt8.ofNat ((48 : Int) + (x % (8 : Int))).toNat :: l.drop (j + 1) := by
      rw [List.drop_eq_getElem_cons (by rw [List.length_set]; omega), List.getElem_set_self, List.drop_set_of_lt (by omega)]
    rw [e]
    show Sum.inl (oq j (x / 8), -1, od j (x / 8) ++ ([UInt8.ofNat ((48 : Int) + (x % (8 : Int))).toNat] ++ l.drop (j + 1))) = _
    rw [← List.append_assoc]
    rfl
theorem octal_is (n d : Int) : octal_m n d = roct_m n d := by
  by_cases h0 : n < 0
  · unfold octal_m roct_m; rw [if_pos h0, if_pos h0]
  by_cases h1 : d < 0
  · unfold octal_m roct_m; rw [if_neg h0, if_neg h0, if_pos h1, if_pos h1]
  by_cases h2 : 22 < d
  · unfold octal_m roct_m; rw [if_neg h0, if_neg h0, if_neg h1, if_neg h1, if_pos h2, if_pos h2]
  rw [roct_is n d (by omega) (by omega) (by omega)]
  unfold octal_m
  have e := octal_f n d d.toNat (((d - (1 : Int)) + 1).toNat + 1) n (List.replicate d.toNat 0) (by rw [List.length_replicate]; exact Nat.le_refl _) (by omega)
  rw [show ((d.toNat : Nat) : Int) - 1 = d - 1 by omega] at e
  rw [if_neg h0, if_neg h1, if_neg h2, e, List.drop_of_length_le (by rw [List.length_replicate]; exact Nat.le_refl _), List.append_nil]
  rfl
end Go.Proofs.YtglnifckngcpkaaDoor.Hd
