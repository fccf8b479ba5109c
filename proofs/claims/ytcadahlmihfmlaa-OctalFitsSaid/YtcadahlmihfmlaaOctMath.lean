/- Plain facts on octal digits: no program. -/
import Derived.Lib.Strings
namespace Go.Proofs.Ytcadahlmihfmlaa.Oct

/-- The sign of a number's lowest octal digit. -/
def dg (m : Nat) : UInt8 := UInt8.ofNat (48 + m % 8)
/-- What is left of n behind k octal digits. -/
def cur (n k : Nat) : Nat := n / 8 ^ k
/-- The last k octal digits of n. -/
def oct (n : Nat) : Nat → List UInt8
  | 0 => []
  | k + 1 => dg (cur n k) :: oct n k
theorem oct_length (n k : Nat) : (oct n k).length = k := by
  induction k with
  | zero => rfl
  | succ k ih => simp [oct, ih]
theorem cur_zero (n : Nat) : cur n 0 = n := by simp [cur]
theorem cur_succ (n k : Nat) : cur n (k + 1) = cur n k / 8 := by
  unfold cur; rw [Nat.div_div_eq_div_mul, Nat.pow_succ]
theorem cur_le (n k : Nat) : cur n k ≤ n := Nat.div_le_self _ _
theorem dg_toNat (m : Nat) : (dg m).toNat = 48 + m % 8 := by
  unfold dg; rw [UInt8.toNat_ofNat']; omega
theorem dg_int (m : Nat) : (48 + (m : Int) % 8) = ((dg m).toNat : Int) := by rw [dg_toNat]; omega
theorem set_rep {α : Type} (m : Nat) (z x : α) (l : List α) : (List.replicate (m + 1) z ++ l).set m x = List.replicate m z ++ x :: l := by
  induction m with
  | zero => rfl
  | succ m ih =>
    rw [List.replicate_succ (n := m + 1), List.cons_append, List.set_cons_succ, ih, List.replicate_succ (n := m), List.cons_append]

/-- What is left of n behind k bytes. -/
def curb (n k : Nat) : Nat := n / 256 ^ k
/-- The last k bytes of n. -/
def byt (n : Nat) : Nat → List UInt8
  | 0 => []
  | k + 1 => UInt8.ofNat (curb n k) :: byt n k
theorem byt_length (n k : Nat) : (byt n k).length = k := by
  induction k with
  | zero => rfl
  | succ k ih => simp [byt, ih]
theorem curb_zero (n : Nat) : curb n 0 = n := by simp [curb]
theorem curb_succ (n k : Nat) : curb n (k + 1) = curb n k / 256 := by
  unfold curb; rw [Nat.div_div_eq_div_mul, Nat.pow_succ]
theorem curb_le (n k : Nat) : curb n k ≤ n := Nat.div_le_self _ _
theorem byte_int (m : Nat) : (m : Int) % 256 = ((UInt8.ofNat m).toNat : Int) := by rw [UInt8.toNat_ofNat']; omega
/-- A number's field of V + 1 bytes, and the error. -/
def putS (n V : Nat) : List UInt8 := if cur n V = 0 then oct n V ++ [0] else if curb n V = 0 then 128 :: byt n V else []
def putE (n V : Nat) : Int := if cur n V = 0 then 0 else if curb n V = 0 then 0 else 3
end Go.Proofs.Ytcadahlmihfmlaa.Oct
