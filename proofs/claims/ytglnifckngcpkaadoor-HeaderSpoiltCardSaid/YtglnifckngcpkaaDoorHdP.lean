/- Layer 8: what is put is the document's: the mathematics. -/
import Derived.Test.YtglnifckngcpkaaDoorHdI2
import Derived.Test.YtglnifckngcpkaaDoorHdN
set_option linter.unusedVariables false
namespace Go.Proofs.YtglnifckngcpkaaDoor.Hd
open Go.Proofs.YtglnifckngcpkaaDoor.Mem
/-- The last bytes. -/
def bd : Nat → Int → List UInt8
  | 0, _ => []
  | d + 1, n => bd d (n / 256) ++ [UInt8.ofNat n.toNat]
def bq : Nat → Int → Int
  | 0, n => n
  | d + 1, n => bq d (n / 256)
theorem bd_len : ∀ d n, (bd d n).length = d
  | 0, _ => rfl
  | d + 1, n => by unfold bd; rw [List.length_append, bd_len d, List.length_singleton]
theorem rput_l (n0 w : Int) : ∀ (j k : Nat) (x : Int) (s : List UInt8), (s.length : Int) + j = w - 1 → j < k → rput_m_l0 n0 w k (x, s) = .inl (bq j x, bd j x ++ s)
  | j, 0, x, s, h, hk => by omega
  | 0, k + 1, x, s, h, hk => by
    show rput_m_b0 n0 w (rput_m_l0 n0 w k) x s = _
    unfold rput_m_b0
    rw [if_neg (by omega)]
    rfl
  | j + 1, k + 1, x, s, h, hk => by
    show rput_m_b0 n0 w (rput_m_l0 n0 w k) x s = _
    unfold rput_m_b0
    rw [if_pos (by omega), rput_l n0 w j k _ _ (by rw [List.length_append, List.length_singleton]; omega) (by omega)]
    show Sum.inl (bq j (x / 256), bd j (x / 256) ++ ([UInt8.ofNat x.toNat] ++ s)) = _
    rw [← List.append_assoc]
    rfl
theorem put_f (n0 w : Int) : ∀ (j k : Nat) (x : Int) (l : List UInt8), j < l.length → j < k → put_m_l0 n0 w k (x, (j : Int), l) = .inl (bq j x, 0, l.take 1 ++ (bd j x ++ l.drop (j + 1)))
  | j, 0, x, l, h, hk => by omega
  | 0, k + 1, x, l, h, hk => by
    show put_m_b0 n0 w (put_m_l0 n0 w k) x ((0 : Nat) : Int) l = _
    unfold put_m_b0
    rw [if_neg (by omega)]
    show Sum.inl (x, ((0 : Nat) : Int), l) = Sum.inl (x, 0, l.take 1 ++ l.drop 1)
    rw [List.take_append_drop]
    rfl
  | j + 1, k + 1, x, l, h, hk => by
    show put_m_b0 n0 w (put_m_l0 n0 w k) x ((j + 1 : Nat) : Int) l = _
    unfold put_m_b0
    rw [if_pos (by omega), show (((j + 1 : Nat) : Int) - 1) = (j : Int) by omega, put_f n0 w j k _ _ (by rw [List.length_set]; omega) (by omega), Int.toNat_natCast]
    have e : (l.set (j + 1) (UInt8.ofNat x.toNat)).drop (j + 1) = UInt8.ofNat x.toNat :: l.drop (j + 1 + 1) := by
      rw [List.drop_eq_getElem_cons (by rw [List.length_set]; omega), List.getElem_set_self, List.drop_set_of_lt (by omega)]
    have e2 : (l.set (j + 1) (UInt8.ofNat x.toNat)).take 1 = l.take 1 := by
      rw [List.take_set_of_le (by omega)]
    rw [e, e2]
    show Sum.inl (bq j (x / 256), 0, l.take 1 ++ (bd j (x / 256) ++ ([UInt8.ofNat x.toNat] ++ l.drop (j + 1 + 1)))) = _
    rw [← List.append_assoc (bd j (x / 256))]
    rfl
theorem put_is (n w : Int) : put_m n w = rput_m n w := by
  unfold put_m rput_m
  by_cases h0 : n < 0
  · rw [if_pos h0, if_pos h0]
  rw [if_neg h0, if_neg h0, octal_is]
  have key : (w = 8 ∨ w = 12) → fin (put_m_l0 n w ((w - (1 : Int)).toNat + 1) (n, w - (1 : Int), (List.replicate w.toNat (0 : UInt8)).set 0 (UInt8.ofNat 128))) (fun r => r) (fun zz => put_m_k0 n w zz.1 zz.2.1 zz.2.2) = fin (rput_m_l0 n w ((w - 1 - ((([] : List UInt8).length : Nat) : Int)).toNat + 1) (n, [])) (fun r => r) (fun zz => rput_m_k0 n w zz.1 zz.2) := by
    intro hw
    have e1 := put_f n w (w - 1).toNat ((w - (1 : Int)).toNat + 1) n ((List.replicate w.toNat (0 : UInt8)).set 0 (UInt8.ofNat 128)) (by rw [List.length_set, List.length_replicate]; omega) (by omega)
    have e2 := rput_l n w (w - 1).toNat ((w - 1 - ((([] : List UInt8).length : Nat) : Int)).toNat + 1) n [] (by rw [List.length_nil]; omega) (by rw [List.length_nil]; omega)
    rw [show (((w - 1).toNat : Nat) : Int) = w - 1 by omega] at e1
    have e3 : ((List.replicate w.toNat (0 : UInt8)).set 0 (UInt8.ofNat 128)).drop ((w - 1).toNat + 1) = [] := List.drop_of_length_le (by rw [List.length_set, List.length_replicate]; omega)
    have e4 : ((List.replicate w.toNat (0 : UInt8)).set 0 (UInt8.ofNat 128)).take 1 = [128] := by
      rcases hw with rfl | rfl <;> rfl
    rw [e1, e2, e3, e4, List.append_nil]
    rfl
  by_cases h8 : w = 8
  · rw [if_neg (show ¬ ¬ w = 8 from fun c => c h8), if_neg (show ¬ ¬ w = 8 from fun c => c h8), key (.inl h8)]
  · rw [if_pos h8, if_pos h8]
    by_cases h12 : w = 12
    · rw [if_neg (show ¬ ¬ w = 12 from fun c => c h12), if_neg (show ¬ ¬ w = 12 from fun c => c h12), key (.inr h12)]
    · rw [if_pos h12, if_pos h12]
theorem rput_len (n w : Int) : (rput_m n w).1.length ≤ 12 := by
  rw [← put_is]
  rcases put_all n w with ⟨_, a, b, _⟩ | ⟨_, a⟩
  · omega
  · rw [a]; decide
end Go.Proofs.YtglnifckngcpkaaDoor.Hd
