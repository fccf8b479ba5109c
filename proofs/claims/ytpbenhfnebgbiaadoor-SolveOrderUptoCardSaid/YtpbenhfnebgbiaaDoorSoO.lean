/- Layer 20: SolveOrder is true. -/
import Derived.Test.YtpbenhfnebgbiaaDoorSoM
import Derived.Test.YtpbenhfnebgbiaaDoorSoLO
set_option linter.unusedVariables false
namespace Go.Proofs.YtpbenhfnebgbiaaDoor.So
open Go.RowKit Go.Proofs.YtpbenhfnebgbiaaDoor.Pa Go.Proofs.YtpbenhfnebgbiaaDoor.Mem Go.Proofs.YtpbenhfnebgbiaaDoor.Ve
theorem sawake_yes : sawake_m = true := by decide +kernel
theorem order_l (l : List Mf) : ∀ (n k : Nat) (a : List Mf), n < k → n ≤ l.length → lorder_m_l0 l k (a, (n : Int)) = .inl (a ++ (l.take n).reverse, 0)
  | n, 0, a, h, hl => by omega
  | 0, k + 1, a, h, hl => by
    show lorder_m_b0 l (lorder_m_l0 l k) a 0 = _
    unfold lorder_m_b0
    rw [if_neg (by omega), List.take_zero, List.reverse_nil, List.append_nil]
  | n + 1, k + 1, a, h, hl => by
    show lorder_m_b0 l (lorder_m_l0 l k) a ((n + 1 : Nat) : Int) = _
    unfold lorder_m_b0
    have e : (((n + 1 : Nat) : Int) - 1) = (n : Int) := by omega
    rw [if_pos (by omega), e, Int.toNat_natCast]
    show lorder_m_l0 l k (a ++ [l.getD n dMf], (n : Int)) = _
    rw [order_l l n k _ (by omega) (by omega), List.take_succ_eq_append_getElem (by omega), List.reverse_append, List.append_assoc, List.getD_eq_getElem?_getD, List.getElem?_eq_getElem (by omega)]
    rfl
theorem flat_rev {α β : Type} (f : α → List β) : ∀ l : List α, (l.reverse.flatMap f).length = (l.flatMap f).length
  | [] => rfl
  | x :: l => by
    rw [List.reverse_cons, List.flatMap_append, List.flatMap_cons, List.flatMap_nil, List.append_nil, List.length_append, flat_rev f l, List.flatMap_cons, List.length_append]
    omega
theorem lacks_rev (l : List Mf) : (lacks_m l.reverse).length = (lacks_m l).length := by
  rw [lacks_is, lacks_is]
  simp only [List.any_reverse]
  exact flat_rev _ l
theorem clashes_rev (l : List Mf) : (clashes_m l.reverse).length = (clashes_m l).length := by
  rw [clashes_is, clashes_is]
  simp only [List.any_reverse]
  exact flat_rev _ l
theorem lorder_true (l : List Mf) : lorder_m l = true := by
  unfold lorder_m
  by_cases h : 500 < grn l
  · rw [if_pos h]; exact sawake_yes
  · rw [if_neg h, Int.toNat_natCast, order_l l l.length _ [] (Nat.lt_succ_self _) (Nat.le_refl _), List.take_length, List.nil_append]
    show lorder_m_k0 l l.reverse 0 = true
    unfold lorder_m_k0
    have e : solve_m l = solve_m l.reverse := by
      unfold solve_m
      rw [lacks_rev, clashes_rev]
    rw [if_pos sawake_yes, if_pos e, if_pos (lacks_rev l).symm]
    exact decide_eq_true (clashes_rev l).symm
end Go.Proofs.YtpbenhfnebgbiaaDoor.So
