import Derived.Test.YtnmaaijeamlplaaDoorRows
import Derived.WalkKit
import Derived.ProofKit
import Derived.Lib.Hide
import Derived.IntWalk
import Derived.Laws.BitsAllLaws
import Derived.Deep.QuietTactic
import Derived.BigQuiet
import Derived.WalkSmall
set_option linter.unusedVariables false
set_option linter.unusedSimpArgs false
namespace Go.Proofs.YtnmaaijeamlplaaDoor.Sha
open Go.RowKit
def rl (x : UInt32) (s : Nat) : UInt32 := UInt32.ofNat (((x.toNat * 2 ^ s) % 4294967296) ||| (x.toNat / 2 ^ (32 - s)))
theorem rl_toNat (x : UInt32) (s : Nat) : (rl x s).toNat = ((x.toNat * 2 ^ s) % 4294967296) ||| (x.toNat / 2 ^ (32 - s)) := by
 unfold rl
 have h1 : (x.toNat * 2 ^ s) % 4294967296 < 2 ^ 32 := Nat.mod_lt _ (by decide)
 have h2 : x.toNat / 2 ^ (32 - s) < 2 ^ 32 := Nat.lt_of_le_of_lt (Nat.div_le_self _ _) x.toNat_lt
 rw [UInt32.toNat_ofNat', Nat.mod_eq_of_lt (Nat.or_lt_two_pow h1 h2)]
theorem or_rl (x : UInt32) (s : Nat) : bits .or .u32 ((x.toNat : Int) * 2 ^ s % 4294967296) ((x.toNat : Int) / 2 ^ (32 - s)) = ((rl x s).toNat : Int) := by
 have h1 : (x.toNat * 2 ^ s) % 4294967296 < 4294967296 := Nat.mod_lt _ (by decide)
 have h2 : x.toNat / 2 ^ (32 - s) < 4294967296 := Nat.lt_of_le_of_lt (Nat.div_le_self _ _) x.toNat_lt
 have := u32_or_nat _ _ h1 h2
 rw [rl_toNat x s, ← this]
 congr 1
theorem rot_any (x : UInt32) (k : Int) (s : Nat) (w : World) (hk : bits .and .u64 (IntKind.u64.wrap k) 31 = (s : Int)) (hs : s ≤ 31) :
  Calls Tryd.prog 101 #[.int .u32 x.toNat, .int .i64 k] w fun e w' => e = .returned (.int .u32 (rl x s).toNat) ∧ w = w' := by
 go_enter Tryd.func101, Tryd.ntmps101
 go_wp2
 go_ret
 exact ⟨by show Ending.returned (.int .u32 (bits .or .u32 ((x.toNat : Int) * 2 ^ s % 4294967296) ((x.toNat : Int) / 2 ^ (32 - s)))) = _; rw [or_rl x s], rfl⟩
theorem or_comm' (a b : Nat) (ha : a < 4294967296) (hb : b < 4294967296) : bits .or .u32 (a : Int) (b : Int) = bits .or .u32 (b : Int) (a : Int) := by
 rw [u32_or_nat a b ha hb, u32_or_nat b a hb ha, Nat.or_comm]
theorem turn_ref (x : UInt32) (n : Nat) (w : World) (hn : n ≤ 31) (h0 : 1 ≤ n) :
  Calls Tryd.prog 97 #[.int .u32 x.toNat, .int .u64 n] w fun e w' => e = .returned (.int .u32 (rl x (32 - n)).toNat) ∧ w = w' := by
 go_enter Tryd.func97, Tryd.ntmps97
 go_wp2
 go_ret
 refine ⟨?_, rfl⟩
 show Ending.returned (.int .u32 (bits .or .u32 ((x.toNat : Int) / 2 ^ n) ((x.toNat : Int) * 2 ^ (32 - n) % 4294967296))) = _
 have := or_rl x (32 - n)
 rw [show 32 - (32 - n) = n by omega] at this
 rw [← this]
 have e1 : (x.toNat : Int) / 2 ^ n = ((x.toNat / 2 ^ n : Nat) : Int) := by rw [Int.natCast_ediv, Int.natCast_pow]; rfl
 have e2 : (x.toNat : Int) * 2 ^ (32 - n) % 4294967296 = ((x.toNat * 2 ^ (32 - n) % 4294967296 : Nat) : Int) := by rw [Int.natCast_emod, Int.natCast_mul, Int.natCast_pow]; rfl
 rw [e1, e2, or_comm' _ _ (Nat.lt_of_le_of_lt (Nat.div_le_self _ _) x.toNat_lt) (Nat.mod_lt _ (by decide))]
def nt (x : UInt32) : Int := (x.toNat : Int)
theorem fxor (a b : UInt32) : bits .xor .u32 (nt a) (nt b) = nt (a ^^^ b) := by
 unfold nt; rw [u32_xor_nat _ _ a.toNat_lt b.toNat_lt, UInt32.toNat_xor]
theorem fand (a b : UInt32) : bits .and .u32 (nt a) (nt b) = nt (a &&& b) := by
 unfold nt; rw [u32_and_nat _ _ a.toNat_lt b.toNat_lt, UInt32.toNat_and]
theorem fadd (a b : UInt32) : (nt a + nt b) % 4294967296 = nt (a + b) := by
 unfold nt; rw [UInt32.toNat_add]; omega
theorem fadd3 (a b c : UInt32) : (nt a + nt b + nt c) % 4294967296 = nt (a + b + c) := by
 rw [← fadd, ← fadd, Int.emod_add_emod]
theorem fadd4 (a b c d : UInt32) : (nt a + nt b + nt c + nt d) % 4294967296 = nt (a + b + c + d) := by
 rw [← fadd, ← fadd3, Int.emod_add_emod]
theorem fadd13 (d a b c : UInt32) : (nt d + (nt a + nt b + nt c)) % 4294967296 = nt (d + (a + b + c)) := by
 rw [← fadd, ← fadd3, Int.add_emod_emod]
theorem fnot (a : UInt32) : bits .xor .u32 IntKind.u32.max (nt a) = nt (~~~ a) := by
 have h : IntKind.u32.max = nt 4294967295 := by decide
 have e : (4294967295 : UInt32) ^^^ a = ~~~ a := UInt32.toBitVec_inj.1 (by rw [UInt32.toBitVec_xor, UInt32.toBitVec_not]; exact BitVec.allOnes_xor)
 rw [h, fxor, e]
structure H8 where
 a : UInt32
 b : UInt32
 c : UInt32
 d : UInt32
 e : UInt32
 f : UInt32
 g : UInt32
 h : UInt32
def h8 (s : H8) : Array Value := #[.int .u32 (nt s.a), .int .u32 (nt s.b), .int .u32 (nt s.c), .int .u32 (nt s.d), .int .u32 (nt s.e), .int .u32 (nt s.f), .int .u32 (nt s.g), .int .u32 (nt s.h)]
def sOf (k : Int) : Nat := (bits .and .u64 (IntKind.u64.wrap k) 31).toNat
theorem sOf_spec (k : Int) : bits .and .u64 (IntKind.u64.wrap k) 31 = (sOf k : Int) ∧ sOf k ≤ 31 := by
 have h1 : 0 ≤ IntKind.u64.wrap k := wrap_u64_nonneg k
 have h2 : IntKind.u64.wrap k < 18446744073709551616 := by rw [IntKind.wrap_u64]; omega
 have h := u64_and (IntKind.u64.wrap k) 31 h1 h2 (by omega) (by omega)
 have hle := Nat.and_le_right (n := (IntKind.u64.wrap k).toNat) (m := (31 : Int).toNat)
 unfold sOf
 rw [h]
 rw [Int.toNat_natCast]
 exact ⟨rfl, hle⟩
theorem rot_open (x : UInt32) (k : Int) (w : World) :
  Calls Tryd.prog 101 #[.int .u32 (nt x), .int .i64 k] w fun e w' => e = .returned (.int .u32 (nt (rl x (sOf k)))) ∧ w = w' :=
 rot_any x k (sOf k) w (sOf_spec k).1 (sOf_spec k).2
theorem k6 : sOf (-6) = 26 := by decide +kernel
theorem k11 : sOf (-11) = 21 := by decide +kernel
theorem k25 : sOf (-25) = 7 := by decide +kernel
theorem k2 : sOf (-2) = 30 := by decide +kernel
theorem k18 : sOf (-18) = 14 := by decide +kernel
theorem k17 : sOf (-17) = 15 := by decide +kernel
theorem quiet_add_left {P : Program} {f : FuncId} {args : Array Value} {w : World} {a n : Nat} {v : Value}
  (h : Calls P f args (w.drewN (a + n)) fun e w' => e = .returned v ∧ w.drewN (a + n) = w') :
  Calls P f args (w.drewN (a + n)) fun e w'' => e = .returned v ∧ ∃ m, w'' = w.drewN (a + m) :=
 h.mono fun _ _ ⟨he, hm⟩ => ⟨he, n, hm.symm⟩
theorem quiet_left {P : Program} {f : FuncId} {args : Array Value} {w : World} {n : Nat} {v : Value}
  (h : Calls P f args (w.drewN n) fun e w' => e = .returned v ∧ w.drewN n = w') : Calls P f args (w.drewN n) fun e w'' => e = .returned v ∧ ∃ m, w'' = w.drewN m :=
 h.mono fun _ _ ⟨he, hm⟩ => ⟨he, n, hm.symm⟩
def rx0 (h e f g word : UInt32) : UInt32 := h + (rl e (sOf (-6)) ^^^ rl e (sOf (-11)) ^^^ rl e (sOf (-25))) + ((e &&& f) ^^^ (~~~ e &&& g)) + word
def ry0 (a b c : UInt32) : UInt32 := (rl a (sOf (-2)) ^^^ rl a (sOf (-13)) ^^^ rl a (sOf (-22))) + ((a &&& b) ^^^ (a &&& c) ^^^ (b &&& c))
set_option maxHeartbeats 1600000 in
theorem turn_raw (a b c d e f g h8' word : UInt32) (w : World) :
  Calls Tryd.prog 96 #[.agg #[.int .u32 (nt a), .int .u32 (nt b), .int .u32 (nt c), .int .u32 (nt d), .int .u32 (nt e), .int .u32 (nt f), .int .u32 (nt g), .int .u32 (nt h8')], .int .u32 (nt word)] w
   fun e' w' => e' = .returned (.agg #[.int .u32 (nt (rx0 h8' e f g word + ry0 a b c)), .int .u32 (nt a), .int .u32 (nt b), .int .u32 (nt c), .int .u32 (nt (d + rx0 h8' e f g word)), .int .u32 (nt e), .int .u32 (nt f), .int .u32 (nt g)]) ∧ Below w.heap.size w w' := by
 have hx := fxor
 have ha := fand
 have hd := fadd
 have hd3 := fadd3
 have hd4 := fadd4
 have hd13 := fadd13
 have hn := fnot
 go_enter Tryd.func96, Tryd.ntmps96
 go_wp2_with fail
 go_quiet (fail)
 go_wp2_with fail
 go_quiet ((go_at_call 101; exact quiet_add_left (rot_open _ _ _)))
 go_wp2_with (go_at_call 101; refine (rot_open _ _ _).mono ?_; rintro e' w' ⟨rfl, rfl⟩)
 exact bodyPost_ret (v := .agg #[.int .u32 (nt (rx0 h8' e f g word + ry0 a b c)), .int .u32 (nt a), .int .u32 (nt b), .int .u32 (nt c), .int .u32 (nt (d + rx0 h8' e f g word)), .int .u32 (nt e), .int .u32 (nt f), .int .u32 (nt g)]) (by simp [results, Tryd.results96, go_sem, rx0, ry0]) rfl ⟨rfl, by
  refine Below.setCell ?_ (by simp) _
  refine Below.setCell ?_ (by simp) _
  refine Below.setCell ?_ (by simp) _
  refine Below.setCell ?_ (by simp) _
  refine Below.setCell ?_ (by simp) _
  refine Below.setCell ?_ (by simp) _
  refine Below.setCell ?_ (by simp) _
  refine Below.setCell ?_ (by simp) _
  exact below_drewN (((Below.refl _ _).alloc (Nat.le_refl _) _).alloc (by simp) _) _⟩
end Go.Proofs.YtnmaaijeamlplaaDoor.Sha
