import Derived.Test.YtnmaaijeamlplaaDoorBkB
import Derived.Test.YtnmaaijeamlplaaDoorShaF
import Derived.Test.YtnmaaijeamlplaaDoorAl
set_option linter.unusedVariables false
set_option linter.unusedSimpArgs false
namespace Go.Proofs.YtnmaaijeamlplaaDoor.Mem
open Go.RowKit
section
variable {P : Program} {o : Oper} {a : Act} {w : World} {x y : Operand} {T T' : TypeId}
theorem u8_wrapA (n : Int) : IntKind.u8.wrap n = (((UInt8.ofNat (n % 256).toNat).toNat : Nat) : Int) := by
 rw [UInt8.toNat_ofNat', IntKind.wrap_u8]
 omega
theorem r_minN {k : IntKind} (n m : Nat) (hT : P.underlying T = some (.int k)) (ho : o.op = .call { callee := .builtin .min, args := #[x, y], argTypes := #[T, T] }) (hx : a.eval x = .int k (n : Int)) (hy : a.eval y = .int k (m : Int)) : (execOp a.eval o).run P w = .ok (.value (.int k ((min n m : Nat) : Int))) w := by
 unfold execOp
 simp only [ho, resolve, invoke, builtin, Sem.run_bind, Sem.run_pure, Result.andThen_ok, List.map_toArray, List.map_cons, List.map_nil, hx, hy]
 generalize a.eval = f at *
 go_simp
 omega
def w64 (z : Int) : Int := (z + 9223372036854775808) % 18446744073709551616 - 9223372036854775808
theorem w64_is (z : Int) : IntKind.i64.wrap z = w64 z := IntKind.wrap_i64 z
theorem z_shrA (n : Int) (s : Nat) (z : Int) (hs : s ≤ 64) (hz : n / 2 ^ s = z) (ho : o.op = .binOp .shr T x y T') (hx : a.eval x = J n) (hy : a.eval y = .int .u64 ((s : Nat) : Int)) : (execOp a.eval o).run P w = .ok (.value (J z)) w := by
 have e := shift_shr_any .i64 .u64 n ((s : Nat) : Int) (by omega)
 rw [Int.toNat_natCast, show min s IntKind.i64.bits = s from Nat.min_eq_left hs, hz] at e
 unfold execOp
 simp only [ho, hx, hy]
 generalize a.eval = f at *
 simp only [eqGuard_shr, binOp_shr, e]
 rfl
theorem z_shl8 (n : Int) (ho : o.op = .binOp .shl T x y T') (hx : a.eval x = J n) (hy : a.eval y = .int .u64 8) : (execOp a.eval o).run P w = .ok (.value (J (w64 (n * 256)))) w := by
 have e := shift_shl_any .i64 .u64 n 8 (by decide)
 rw [show (n * 2 ^ min (8 : Int).toNat IntKind.i64.bits) = n * 256 from rfl, w64_is] at e
 unfold execOp
 simp only [ho, hx, hy]
 generalize a.eval = f at *
 simp only [eqGuard_shl, binOp_shl, e]
 rfl
theorem w64_low (n : Int) : w64 (n * 256) % 256 = 0 ∧ -9223372036854775808 ≤ w64 (n * 256) ∧ w64 (n * 256) ≤ 9223372036854775552 := by
 unfold w64
 omega
theorem or8_bits (x : Int) (y : Nat) (h0 : x % 256 = 0) (hy : y < 256) : (BitVec.ofInt 64 x ||| BitVec.ofInt 64 (y : Int)).toNat = (x % 18446744073709551616).toNat + y := by
 have ea : (BitVec.ofInt 64 x).toNat = (x % 18446744073709551616).toNat := by simp [BitVec.toNat_ofInt]
 have eb : (BitVec.ofInt 64 (y : Int)).toNat = y := by
  rw [BitVec.toNat_ofInt, show ((2 ^ 64 : Nat) : Int) = 18446744073709551616 from rfl]
  omega
 rw [BitVec.toNat_or, ea, eb]
 exact Sx.or_sum _ _ 8 (by omega) hy
theorem or8_run (x : Int) (y : Nat) (h0 : x % 256 = 0) (h1 : -9223372036854775808 ≤ x) (h2 : x ≤ 9223372036854775552) (hy : y < 256) : Op.intBits .or .i64 x (y : Int) = pure (J (x + (y : Int))) := by
 have e := or8_bits x y h0 hy
 have e2 : IntKind.i64.wrap ((BitVec.ofInt 64 x ||| BitVec.ofInt 64 (y : Int)).toNat : Int) = x + (y : Int) := by
  rw [e, w64_is]
  unfold w64
  omega
 exact congrArg (fun z => (pure (J z) : Sem Value)) e2
theorem z_or8 (n : Int) (m : Nat) (h0 : n % 256 = 0) (h1 : -9223372036854775808 ≤ n) (h2 : n ≤ 9223372036854775552) (hm : m < 256) (ho : o.op = .binOp .or T x y T') (hx : a.eval x = J n) (hy : a.eval y = J ((m : Nat) : Int)) : (execOp a.eval o).run P w = .ok (.value (J (n + (m : Int)))) w := by
 have e := or8_run n m h0 h1 h2 hm
 unfold execOp
 simp only [ho, hx, hy]
 generalize a.eval = f at *
 simp only [eqGuard_or, binOp_or, e]
 rfl
end
end Go.Proofs.YtnmaaijeamlplaaDoor.Mem
namespace Go.Proofs.YtnmaaijeamlplaaDoor.Bk
open Go.RowKit
open Go.Proofs.YtnmaaijeamlplaaDoor.Mem
theorem tx_dl (s : List UInt8) : (tx s).data.toList = s := by simp [tx]
structure Laid (w : World) : Prop where
 k : Sha.KT 0 w
theorem Laid.below {w w' : World} (h : Laid w) (hb : Below w.heap.size w w') : Laid w' := ⟨h.k.below hb h.k.lt⟩
structure Laid2 (w : World) : Prop extends Laid w where
 t : Sha.KT 1 w
theorem Laid2.below {w w' : World} (h : Laid2 w) (hb : Below w.heap.size w w') : Laid2 w' := ⟨h.toLaid.below hb, h.t.below hb h.t.lt⟩
def sum_m (s : List UInt8) : List UInt8 := Sha.sha (tx s)
theorem sum_len (s : List UInt8) : (sum_m s).length = 32 := Sha.spellN_length _ 8
theorem dsum_any (s : List UInt8) (w : World) (hT : Laid w) (hp0 : s.length ≤ 250000) : Calls Tryd.prog 70 #[.string (tx s)] w (fun e w' => e = .returned (.string (tx (sum_m s))) ∧ Below w.heap.size w w') :=
 Sha.sum_any (tx s) w (by rw [tx_size]; exact hp0) hT.k
def hpre_m (s p : List UInt8) : Bool := Lib.hasPrefix s p
theorem hpre_any (s p : List UInt8) (w : World) : Calls Tryd.prog 75 #[.string (tx s), .string (tx p)] w (fun e w' => e = .returned (.bool (hpre_m s p)) ∧ Below w.heap.size w w') := by
 refine (Tryd.strings_HasPrefix (tx s) (tx p) w).mono ?_
 rintro e w' ⟨rfl, rfl⟩
 rw [tx_dl, tx_dl]
 exact ⟨rfl, Below.refl _ _⟩
theorem flat_eS (l : List (List UInt8)) : l.flatMap eS = l.map (fun s => Value.string (tx s)) := by
 induction l with
 | nil => rfl
 | cons x l ih => rw [List.flatMap_cons, ih]; rfl
def join_m (l : List (List UInt8)) (sep : List UInt8) : List UInt8 := Lib.join l sep
theorem join_any (l : List (List UInt8)) (sep : List UInt8) (v0 : Value) (w : World) (hl : Rs eS 1 l v0 w) (hp0 : l.length ≤ 140737488355328) (hp1 : (join_m l sep).length ≤ 140737488355328) : Calls Tryd.prog 71 #[v0, .string (tx sep)] w (fun e w' => e = .returned (.string (tx (join_m l sep))) ∧ Below w.heap.size w w') := by
 rcases hl.2 with ⟨h0, ao, c, rfl⟩ | ⟨g, o, c, rfl, hc, hnc⟩
 ·have : l = [] := List.eq_nil_of_length_eq_zero h0
  subst this
  refine (Tryd.strings_Join_none ao c (tx sep) w).mono ?_
  rintro e w' ⟨rfl, rfl⟩
  exact ⟨rfl, Below.refl _ _⟩
 have e1 : (l.map tx).map (fun b => b.data.toList) = l := by
  rw [List.map_map]
  have : ((fun b : ByteArray => b.data.toList) ∘ tx) = id := funext tx_dl
  rw [this, List.map_id]
 by_cases h0 : l = []
 ·subst h0
  refine (Tryd.strings_Join_none (some ⟨g, o, none⟩) c (tx sep) w).mono ?_
  rintro e w' ⟨rfl, rfl⟩
  exact ⟨rfl, Below.refl _ _⟩
 have hcells : ∀ (j : Nat) (x : ByteArray), (l.map tx)[j]? = some x → w.cell? ⟨g, o + j, none⟩ = some (.string x) := by
  intro j x hx
  refine hc j _ ?_
  rw [flat_eS]
  rw [List.getElem?_map] at hx ⊢
  cases hl : l[j]? with
  | none => rw [hl] at hx; cases hx
  | some s =>
   rw [hl] at hx
   simp only [Option.map_some, Option.some.injEq] at hx
   subst hx
   rfl
 have hlt : g < w.heap.size := by
  obtain ⟨x, r, rfl⟩ := List.exists_cons_of_ne_nil h0
  exact block_lt_of_cell (hcells 0 _ rfl)
 have h := Tryd.strings_Join g o c (l.map tx) (tx sep) w hcells hlt (by rw [List.length_map]; exact hp0) (by rw [List.length_map]; exact hnc) (by rw [e1, tx_dl]; exact hp1)
 rw [e1, tx_dl, List.length_map] at h
 exact h
theorem rep_len (s : List UInt8) (n : Int) (h : 0 ≤ n) : (((rep_m s n).length : Nat) : Int) = (s.length : Int) * n := by
 have key : ∀ k : Nat, (Lib.repeatL s k).length = s.length * k := by
  intro k
  induction k with
  | zero => rfl
  | succ k ih =>
   show (s ++ Lib.repeatL s k).length = _
   rw [List.length_append, ih, Nat.mul_succ, Nat.add_comm]
 unfold rep_m
 rw [key, Int.natCast_mul, Int.toNat_of_nonneg h]
theorem rep0_len (n : Int) (h : 0 ≤ n) : (((rep_m [0] n).length : Nat) : Int) = n := by
 have := rep_len [0] n h
 rw [List.length_singleton] at this
 omega
end Go.Proofs.YtnmaaijeamlplaaDoor.Bk
