/- Layer 9: what the library's functions give, over lists of bytes. -/
import Derived.Test.YtglnifckngcpkaaDoorHdT
import Derived.Test.YtglnifckngcpkaaDoorShelf
import Derived.Test.YtglnifckngcpkaaDoorCut
import Derived.Test.YtglnifckngcpkaaDoorAl
set_option linter.unusedVariables false
namespace Go.Proofs.YtglnifckngcpkaaDoor.Mem
open Go.RowKit
section
variable {P : Program} {o : Oper} {a : Act} {w : World} {x y : Operand} {T T' : TypeId}
theorem u8_wrap (n : Int) (h : 0 ≤ n) : IntKind.u8.wrap n = (((UInt8.ofNat n.toNat).toNat : Nat) : Int) := by
  rw [UInt8.toNat_ofNat']
  simp [IntKind.wrap, IntKind.bits, IntKind.signed]
  omega
theorem u_sub {T' : TypeId} (n m : Nat) (hm : m ≤ 256) (ho : o.op = .binOp .sub T x y T') (hx : a.eval x = .int .u8 ((n : Nat) : Int)) (hy : a.eval y = .int .u8 ((m : Nat) : Int)) : (execOp a.eval o).run P w = .ok (.value (.int .u8 (((UInt8.ofNat (n + 256 - m)).toNat : Nat) : Int))) w := by
  have e : IntKind.u8.wrap ((n : Int) - (m : Int)) = (((UInt8.ofNat (n + 256 - m)).toNat : Nat) : Int) := by
    rw [UInt8.toNat_ofNat']
    simp [IntKind.wrap, IntKind.bits, IntKind.signed]
    omega
  rw [← e]
  unfold execOp
  simp only [ho, hx, hy]
  generalize a.eval = f at *
  go_simp
theorem z_shrN {T' : TypeId} (n : Int) (k : Nat) (z : Int) (h : 0 ≤ n) (hk : k ≤ 64) (hz : ((n.toNat / 2 ^ k : Nat) : Int) = z) (ho : o.op = .binOp .shr T x y T') (hx : a.eval x = .int .i64 n) (hy : a.eval y = .int .u64 ((k : Nat) : Int)) : (execOp a.eval o).run P w = .ok (.value (.int .i64 z)) w := by
  subst hz
  exact Sx.r_shr (k := .i64) n.toNat k hk ho (hx.trans (by congr 1; omega)) hy
end
end Go.Proofs.YtglnifckngcpkaaDoor.Mem
namespace Go.Proofs.YtglnifckngcpkaaDoor.Hd
open Go.RowKit
open Go.Proofs.YtglnifckngcpkaaDoor.Mem
theorem tx_dl (s : List UInt8) : (tx s).data.toList = s := by simp [tx]
def wids : List Int := [8, 8, 8, 12, 12]
/-- What the variables hold. -/
structure Laid (w : World) : Prop where
  wid : ∀ (i : Nat) (v : Int), wids[i]? = some v → w.cell? ⟨0, i, none⟩ = some (.int .i64 v)
  max : ∃ m, w.cell? ⟨1, 0, none⟩ = some (.int .i64 m)
theorem Laid.below {w w' : World} (h : Laid w) (hb : Below w.heap.size w w') : Laid w' := by
  refine ⟨fun i v hi => ?_, ?_⟩
  · have hm := h.wid i v hi
    exact (hb.cell (p := ⟨0, i, none⟩) (block_lt_of_cell hm)).trans hm
  · obtain ⟨m, hm⟩ := h.max
    exact ⟨m, (hb.cell (p := ⟨1, 0, none⟩) (block_lt_of_cell hm)).trans hm⟩
def ib_m (s : List UInt8) (c : Nat) : Int := Lib.indexByte s c.toUInt8
theorem ib_any (s : List UInt8) (c : Nat) (w : World) : Calls Tryd.prog 47 #[.string (tx s), .int .u8 ((c : Nat) : Int)] w (fun e w' => e = .returned (.int .i64 (ib_m s c)) ∧ Below w.heap.size w w') := by
  refine (Tryd.strings_IndexByte (tx s) ((c : Nat) : Int) w).mono ?_
  rintro e w' ⟨rfl, rfl⟩
  rw [tx_dl, Int.toNat_natCast]
  exact ⟨rfl, Below.refl _ _⟩
theorem below_drewN {B : Nat} {a w : World} (h : Below B a w) : ∀ q, Below B a (w.drewN q)
  | 0 => h
  | q + 1 => (below_drewN h q).drew
def cut_m (s sep : List UInt8) : List UInt8 × List UInt8 × Bool := Lib.cut s sep
theorem cut_any (s sep : List UInt8) (w : World) (hT : Laid w) (hp0 : s.length < 4294967281) : Calls Tryd.prog 55 #[.string (tx s), .string (tx sep)] w (fun e w' => e = .returned (.tuple #[.string (tx (cut_m s sep).1), .string (tx (cut_m s sep).2.1), .bool (cut_m s sep).2.2]) ∧ Below w.heap.size w w') := by
  obtain ⟨m, hm⟩ := hT.max
  refine (Tryd.strings_Cut (tx s) (tx sep) m w (by rw [tx_size]; exact hp0) hm).mono ?_
  rintro e w' ⟨rfl, n, rfl⟩
  rw [tx_dl, tx_dl]
  exact ⟨rfl, below_drewN (Below.refl _ _) n⟩
/-- So many noughts. -/
def rep_m (s : List UInt8) (n : Int) : List UInt8 := List.replicate n.toNat 0
theorem rep_len (s : List UInt8) (n : Int) (h : 0 ≤ n) : ((rep_m s n).length : Int) = n := by unfold rep_m; rw [List.length_replicate]; omega
theorem repeat_one : ∀ n, Lib.repeatL [0] n = List.replicate n 0
  | 0 => rfl
  | n + 1 => by
    show [0] ++ Lib.repeatL [0] n = _
    rw [repeat_one n]
    rfl
theorem rep_any (s : List UInt8) (n : Int) (w : World) (hp0 : s = [0]) (hp1 : 0 ≤ n) (hp2 : n ≤ 1048576) : Calls Tryd.prog 51 #[.string (tx s), .int .i64 n] w (fun e w' => e = .returned (.string (tx (rep_m s n))) ∧ Below w.heap.size w w') := by
  subst hp0
  have h := Tryd.strings_Repeat (tx [0]) n.toNat w (by omega) (by rw [tx_size, List.length_singleton]; omega)
  rw [show ((n.toNat : Nat) : Int) = n from by omega] at h
  refine h.mono ?_
  rintro e w' ⟨rfl, hb⟩
  rw [tx_dl, repeat_one]
  exact ⟨rfl, hb⟩
end Go.Proofs.YtglnifckngcpkaaDoor.Hd
