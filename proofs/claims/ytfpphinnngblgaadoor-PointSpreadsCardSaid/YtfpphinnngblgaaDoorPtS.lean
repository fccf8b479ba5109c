/- Layer 5: small numbers as 32 bytes. -/
import Derived.Test.YtfpphinnngblgaaDoorPtQ
import Derived.Test.YtfpphinnngblgaaDoorCrvN
import Derived.OpenShut
namespace Go.Proofs.YtfpphinnngblgaaDoor.Fld
open Go.RowKit Go.Lib
open Go.Proofs.YtfpphinnngblgaaDoor.Num (val up val_congr val_add val_lt val_up val_digits val_word)
open Go.Proofs.YtfpphinnngblgaaDoor.Arr Go.Proofs.YtfpphinnngblgaaDoor.Sym Go.Proofs.YtfpphinnngblgaaDoor.Sx

theorem some_u16 : (Tryd.prog.underlying 39).isSome = true := by kernel_rfl
theorem nat_u16 {x : Int} (h : (Lit.int .u16 x).wf = true) : ∃ n : Nat, n < 65536 ∧ x = (n : Int) := by
  have := bounds_u16 h
  exact ⟨x.toNat, by omega, by omega⟩
theorem r_bd2 {o : Oper} {a : Act} {w : World} {x0 x1 : Operand} (v0 v1 n : Nat) (hn : ∀ j, j < 32 → (up (up (fun _ => 0) 0 v0) 1 v1) j = bt n j) (ho : o.op = .build 23 #[(0, x0), (1, x1)]) (h0 : a.eval x0 = .int .u8 ((v0 : Nat) : Int)) (h1 : a.eval x1 = .int .u8 ((v1 : Nat) : Int)) :
    (execOp a.eval o).run Tryd.prog w = .ok (.value (.agg (bs n))) w := by
  have e : bs n = rowOf .u8 (up (up (fun _ => 0) 0 v0) 1 v1) 32 := rowOf_congr fun j hj => (hn j hj).symm
  rw [e]
  unfold execOp
  simp only [ho]
  generalize a.eval = f at *
  go_simp
  rfl
theorem r_bd3 {o : Oper} {a : Act} {w : World} {x0 x1 x2 : Operand} (v0 v1 v2 n : Nat) (hn : ∀ j, j < 32 → (up (up (up (fun _ => 0) 0 v0) 1 v1) 2 v2) j = bt n j) (ho : o.op = .build 23 #[(0, x0), (1, x1), (2, x2)]) (h0 : a.eval x0 = .int .u8 ((v0 : Nat) : Int)) (h1 : a.eval x1 = .int .u8 ((v1 : Nat) : Int)) (h2 : a.eval x2 = .int .u8 ((v2 : Nat) : Int)) :
    (execOp a.eval o).run Tryd.prog w = .ok (.value (.agg (bs n))) w := by
  have e : bs n = rowOf .u8 (up (up (up (fun _ => 0) 0 v0) 1 v1) 2 v2) 32 := rowOf_congr fun j hj => (hn j hj).symm
  rw [e]
  unfold execOp
  simp only [ho]
  generalize a.eval = f at *
  go_simp
  rfl
theorem low_two (n : Nat) (h : n < 65536) : ∀ j, j < 32 → (up (up (fun _ => 0) 0 (n % 256)) 1 (n / 2 ^ 8 % 256)) j = bt n j := fun j _ => by
  unfold up bt
  by_cases h1 : j = 1
  · subst h1; rw [if_pos rfl]
  · rw [if_neg h1]
    by_cases h0 : j = 0
    · subst h0; rw [if_pos rfl, Nat.pow_zero, Nat.div_one]
    · rw [if_neg h0]
      have : n < 256 ^ j := Nat.lt_of_lt_of_le h (by rw [show 65536 = 256 ^ 2 by decide]; exact Nat.pow_le_pow_right (by decide) (by omega))
      rw [Nat.div_eq_of_lt this]
theorem low_three (n : Nat) (h : n < 16777216) : ∀ j, j < 32 → (up (up (up (fun _ => 0) 0 (n % 256)) 1 (n / 2 ^ 8 % 256)) 2 (n / 2 ^ 16 % 256)) j = bt n j := fun j _ => by
  unfold up bt
  by_cases h2 : j = 2
  · subst h2; rw [if_pos rfl]
  · rw [if_neg h2]
    by_cases h1 : j = 1
    · subst h1; rw [if_pos rfl]
    · rw [if_neg h1]
      by_cases h0 : j = 0
      · subst h0; rw [if_pos rfl, Nat.pow_zero, Nat.div_one]
      · rw [if_neg h0]
        have : n < 256 ^ j := Nat.lt_of_lt_of_le h (by rw [show 16777216 = 256 ^ 3 by decide]; exact Nat.pow_le_pow_right (by decide) (by omega))
        rw [Nat.div_eq_of_lt this]
/-- The lower bytes of the order. -/
def ordL : Nat := 27742317777372353535851937790883648493
theorem ord_row : bs ordN = rowOf .u8 (up (bt ordL) 31 16) 32 := rowOf_congr (by decide +kernel)
theorem ordN_lt : ordN < MM := by decide
end Go.Proofs.YtfpphinnngblgaaDoor.Fld
