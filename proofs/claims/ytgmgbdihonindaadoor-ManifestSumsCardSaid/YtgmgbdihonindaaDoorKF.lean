/- Contracts for SHA-256: turning words. -/
import Derived.Test.YtgmgbdihonindaaDoorRows
import Derived.WalkKit
import Derived.ProofKit
import Derived.Lib.Hide
import Derived.IntWalk
import Derived.Laws.BitsAllLaws
import Derived.Deep.QuietTactic
import Derived.BigQuiet
import Derived.WalkSmall
import Derived.StillTailTactics
import Derived.Lib.Strings
import Derived.Deep.RegionHeld3
import Derived.Lib.SlBytesRow
import Derived.Lib.BufferRead
import Derived.Deep.AppendLies
import Derived.Deep.RegionWith
set_option linter.all false
namespace Go.Proofs.YtgmgbdihonindaaDoor.Sha
open Go.RowKit

/-- x, turned left by s. -/
def rl (x : UInt32) (s : Nat) : UInt32 := UInt32.ofNat (((x.toNat * 2 ^ s) % 4294967296) ||| (x.toNat / 2 ^ (32 - s)))
theorem rl_toNat (x : UInt32) (s : Nat) : (rl x s).toNat = ((x.toNat * 2 ^ s) % 4294967296) ||| (x.toNat / 2 ^ (32 - s)) := by
  unfold rl
  have h1 : (x.toNat * 2 ^ s) % 4294967296 < 2 ^ 32 := Nat.mod_lt _ (by decide)
  have h2 : x.toNat / 2 ^ (32 - s) < 2 ^ 32 := Nat.lt_of_le_of_lt (Nat.div_le_self _ _) x.toNat_lt
  rw [UInt32.toNat_ofNat', Nat.mod_eq_of_lt (Nat.or_lt_two_pow h1 h2)]
theorem or_rl (x : UInt32) (s : Nat) : bits .or .u32 ((x.toNat : Int) * 2 ^ s % 4294967296) ((x.toNat : Int) / 2 ^ (32 - s)) = ((rl x s).toNat : Int) := by
  have h1 : (x.toNat * 2 ^ s) % 4294967296 < 4294967296 := Nat.mod_lt _ (by decide)
  have h2 : x.toNat / 2 ^ (32 - s) < 4294967296 := Nat.lt_of_le_of_lt (Nat.div_le_self _ _) x.toNat_lt
  have := u32_or_nat _ _ h1 h2
  rw [rl_toNat x s, ← this]
  congr 1

theorem or_comm' (a b : Nat) (ha : a < 4294967296) (hb : b < 4294967296) : bits .or .u32 (a : Int) (b : Int) = bits .or .u32 (b : Int) (a : Int) := by
  rw [u32_or_nat a b ha hb, u32_or_nat b a hb ha, Nat.or_comm]

theorem turn_ref (x : UInt32) (n : Nat) (w : World) (hn : n ≤ 31) (h0 : 1 ≤ n) :
    Calls Tryd.prog 46 #[.int .u32 x.toNat, .int .u64 n] w fun e w' => e = .returned (.int .u32 (rl x (32 - n)).toNat) ∧ w = w' := by
  go_enter Tryd.func46, Tryd.ntmps46
  go_wp2
  go_ret
  refine ⟨?_, rfl⟩
  show Ending.returned (.int .u32 (bits .or .u32 ((x.toNat : Int) / 2 ^ n) ((x.toNat : Int) * 2 ^ (32 - n) % 4294967296))) = _
  have := or_rl x (32 - n)
  rw [show 32 - (32 - n) = n by omega] at this
  rw [← this]
  have e1 : (x.toNat : Int) / 2 ^ n = ((x.toNat / 2 ^ n : Nat) : Int) := by rw [Int.natCast_ediv, Int.natCast_pow]; rfl
  have e2 : (x.toNat : Int) * 2 ^ (32 - n) % 4294967296 = ((x.toNat * 2 ^ (32 - n) % 4294967296 : Nat) : Int) := by rw [Int.natCast_emod, Int.natCast_mul, Int.natCast_pow]; rfl
  rw [e1, e2, or_comm' _ _ (Nat.lt_of_le_of_lt (Nat.div_le_self _ _) x.toNat_lt) (Nat.mod_lt _ (by decide))]

/-- A word as a number: closed to the walk. -/
def nt (x : UInt32) : Int := (x.toNat : Int)
theorem fxor (a b : UInt32) : bits .xor .u32 (nt a) (nt b) = nt (a ^^^ b) := by
  unfold nt; rw [u32_xor_nat _ _ a.toNat_lt b.toNat_lt, UInt32.toNat_xor]
theorem fand (a b : UInt32) : bits .and .u32 (nt a) (nt b) = nt (a &&& b) := by
  unfold nt; rw [u32_and_nat _ _ a.toNat_lt b.toNat_lt, UInt32.toNat_and]
theorem fior (a b : UInt32) : bits .or .u32 (nt a) (nt b) = nt (a ||| b) := by
  unfold nt; rw [u32_or_nat _ _ a.toNat_lt b.toNat_lt, UInt32.toNat_or]
theorem fadd (a b : UInt32) : (nt a + nt b) % 4294967296 = nt (a + b) := by
  unfold nt; rw [UInt32.toNat_add]; omega
theorem fadd3 (a b c : UInt32) : (nt a + nt b + nt c) % 4294967296 = nt (a + b + c) := by
  rw [← fadd, ← fadd, Int.emod_add_emod]
theorem fadd4 (a b c d : UInt32) : (nt a + nt b + nt c + nt d) % 4294967296 = nt (a + b + c + d) := by
  rw [← fadd, ← fadd3, Int.emod_add_emod]
theorem fadd13 (d a b c : UInt32) : (nt d + (nt a + nt b + nt c)) % 4294967296 = nt (d + (a + b + c)) := by
  rw [← fadd, ← fadd3, Int.add_emod_emod]
theorem fnot (a : UInt32) : bits .xor .u32 IntKind.u32.max (nt a) = nt (~~~ a) := by
  have h : IntKind.u32.max = nt 4294967295 := by decide
  have e : (4294967295 : UInt32) ^^^ a = ~~~ a := UInt32.toBitVec_inj.1 (by rw [UInt32.toBitVec_xor, UInt32.toBitVec_not]; exact BitVec.allOnes_xor)
  rw [h, fxor, e]

/-- Eight words. -/
structure H8 where
  a : UInt32
  b : UInt32
  c : UInt32
  d : UInt32
  e : UInt32
  f : UInt32
  g : UInt32
  h : UInt32
def h8 (s : H8) : Array Value := #[.int .u32 (nt s.a), .int .u32 (nt s.b), .int .u32 (nt s.c), .int .u32 (nt s.d), .int .u32 (nt s.e), .int .u32 (nt s.f), .int .u32 (nt s.g), .int .u32 (nt s.h)]
def big1 (e : UInt32) : UInt32 := rl e 26 ^^^ rl e 21 ^^^ rl e 7
def big0 (a : UInt32) : UInt32 := rl a 30 ^^^ rl a 19 ^^^ rl a 10
def rx (s : H8) (word : UInt32) : UInt32 := s.h + big1 s.e + ((s.e &&& s.f) ^^^ (~~~ s.e &&& s.g)) + word
def ry (s : H8) : UInt32 := big0 s.a + ((s.a &&& s.b) ^^^ (s.a &&& s.c) ^^^ (s.b &&& s.c))
def rnd (s : H8) (word : UInt32) : H8 := ⟨rx s word + ry s, s.a, s.b, s.c, s.d + rx s word, s.e, s.f, s.g⟩

def sOf (k : Int) : Nat := (bits .and .u64 (IntKind.u64.wrap k) 31).toNat
theorem sOf_spec (k : Int) : bits .and .u64 (IntKind.u64.wrap k) 31 = (sOf k : Int) ∧ sOf k ≤ 31 := by
  have h1 : 0 ≤ IntKind.u64.wrap k := wrap_u64_nonneg k
  have h2 : IntKind.u64.wrap k < 18446744073709551616 := by rw [IntKind.wrap_u64]; omega
  have h := u64_and (IntKind.u64.wrap k) 31 h1 h2 (by omega) (by omega)
  have hle := Nat.and_le_right (n := (IntKind.u64.wrap k).toNat) (m := (31 : Int).toNat)
  unfold sOf
  rw [h]
  rw [Int.toNat_natCast]
  exact ⟨rfl, hle⟩
theorem k6 : sOf (-6) = 26 := by decide +kernel
theorem k11 : sOf (-11) = 21 := by decide +kernel
theorem k25 : sOf (-25) = 7 := by decide +kernel
theorem k2 : sOf (-2) = 30 := by decide +kernel
theorem k13 : sOf (-13) = 19 := by decide +kernel
theorem k22 : sOf (-22) = 10 := by decide +kernel
theorem k7 : sOf (-7) = 25 := by decide +kernel
theorem k18 : sOf (-18) = 14 := by decide +kernel
theorem k17 : sOf (-17) = 15 := by decide +kernel
theorem k19 : sOf (-19) = 13 := by decide +kernel

theorem quiet_add_left {P : Program} {f : FuncId} {args : Array Value} {w : World} {a n : Nat} {v : Value}
    (h : Calls P f args (w.drewN (a + n)) fun e w' => e = .returned v ∧ w.drewN (a + n) = w') :
    Calls P f args (w.drewN (a + n)) fun e w'' => e = .returned v ∧ ∃ m, w'' = w.drewN (a + m) :=
  h.mono fun _ _ ⟨he, hm⟩ => ⟨he, n, hm.symm⟩
theorem quiet_left {P : Program} {f : FuncId} {args : Array Value} {w : World} {n : Nat} {v : Value}
    (h : Calls P f args (w.drewN n) fun e w' => e = .returned v ∧ w.drewN n = w') : Calls P f args (w.drewN n) fun e w'' => e = .returned v ∧ ∃ m, w'' = w.drewN m :=
  h.mono fun _ _ ⟨he, hm⟩ => ⟨he, n, hm.symm⟩

def rx0 (h e f g word : UInt32) : UInt32 := h + (rl e (sOf (-6)) ^^^ rl e (sOf (-11)) ^^^ rl e (sOf (-25))) + ((e &&& f) ^^^ (~~~ e &&& g)) + word
def ry0 (a b c : UInt32) : UInt32 := (rl a (sOf (-2)) ^^^ rl a (sOf (-13)) ^^^ rl a (sOf (-22))) + ((a &&& b) ^^^ (a &&& c) ^^^ (b &&& c))

end Go.Proofs.YtgmgbdihonindaaDoor.Sha
namespace Go.Proofs.YtgmgbdihonindaaDoor.Sha
def sm0 (x : UInt32) : UInt32 := rl x (sOf (-7)) ^^^ rl x (sOf (-18)) ^^^ UInt32.ofNat (x.toNat / 8)
def sm1 (x : UInt32) : UInt32 := rl x (sOf (-17)) ^^^ rl x (sOf (-19)) ^^^ UInt32.ofNat (x.toNat / 1024)
/-- The next word of a block's 64: m are the first sixteen. -/
def nxt (m : Nat → UInt32) (l : List UInt32) (n : Nat) : UInt32 :=
  if n < 16 then m n else l.getD (n - 16) 0 + sm0 (l.getD (n - 15) 0) + l.getD (n - 7) 0 + sm1 (l.getD (n - 2) 0)
def wl (m : Nat → UInt32) : Nat → List UInt32
  | 0 => []
  | n + 1 => wl m n ++ [nxt m (wl m n) n]
def W (m : Nat → UInt32) (j : Nat) : UInt32 := nxt m (wl m j) j
theorem wl_length (m : Nat → UInt32) (n : Nat) : (wl m n).length = n := by
  induction n with
  | zero => rfl
  | succ n ih => simp [wl, ih]
theorem W_get (m : Nat → UInt32) (n j : Nat) (h : j < n) : (wl m n).getD j 0 = W m j := by
  induction n with
  | zero => omega
  | succ n ih =>
    rw [wl, List.getD_eq_getElem?_getD]
    by_cases hj : j < n
    · rw [List.getElem?_append_left (by rw [wl_length]; exact hj), ← List.getD_eq_getElem?_getD, ih hj]
    · obtain rfl : j = n := by omega
      rw [List.getElem?_append_right (by rw [wl_length]; omega), wl_length]
      simp [W]
theorem W_lo (m : Nat → UInt32) (j : Nat) (h : j < 16) : W m j = m j := by
  unfold W nxt; rw [if_pos h]
theorem W_hi (m : Nat → UInt32) (p : Nat) : W m (p + 16) = W m p + sm0 (W m (p + 1)) + W m (p + 9) + sm1 (W m (p + 14)) := by
  have e : W m (p + 16) = nxt m (wl m (p + 16)) (p + 16) := rfl
  rw [e, nxt, if_neg (by omega), W_get m (p + 16) _ (by omega), W_get m (p + 16) _ (by omega), W_get m (p + 16) _ (by omega), W_get m (p + 16) _ (by omega)]
  rw [show p + 16 - 16 = p by omega, show p + 16 - 15 = p + 1 by omega, show p + 16 - 7 = p + 9 by omega, show p + 16 - 2 = p + 14 by omega]
end Go.Proofs.YtgmgbdihonindaaDoor.Sha
namespace Go.Proofs.YtgmgbdihonindaaDoor.Sha
open Go.RowKit

/-- The words f(0), f(1), .. up to n, as cells. -/
def rowOf (f : Nat → UInt32) (n : Nat) : Array Value := ((List.range n).map fun j => Value.int .u32 (nt (f j))).toArray
theorem rowOf_size (f : Nat → UInt32) (n : Nat) : (rowOf f n).size = n := by simp [rowOf]
theorem rowOf_get (f : Nat → UInt32) (n j : Nat) (h : j < n) : (rowOf f n)[j]? = some (.int .u32 (nt (f j))) := by
  unfold rowOf
  rw [List.getElem?_toArray, List.getElem?_map, List.getElem?_range h]; rfl
theorem rowOf_one (f : Nat → UInt32) (n : Nat) : (rowOf f n).all (·.oneCell') = true := by
  rw [Array.all_eq_true_iff_forall_mem]
  intro x hx
  unfold rowOf at hx
  rw [List.mem_toArray, List.mem_map] at hx
  obtain ⟨_, _, rfl⟩ := hx
  rfl
theorem rowOf_congr {f g : Nat → UInt32} {n : Nat} (h : ∀ j, j < n → f j = g j) : rowOf f n = rowOf g n := by
  unfold rowOf
  congr 1
  exact List.map_congr_left fun j hj => by rw [h j (List.mem_range.1 hj)]
def up (f : Nat → UInt32) (i : Nat) (x : UInt32) : Nat → UInt32 := fun j => if j = i then x else f j
theorem rowOf_set (f : Nat → UInt32) (n i : Nat) (x : UInt32) : (rowOf f n).setIfInBounds i (.int .u32 (nt x)) = rowOf (up f i x) n := by
  apply Array.ext
  · simp [rowOf_size]
  · intro j h1 h2
    rw [rowOf_size] at h2
    have e2 := rowOf_get (up f i x) n j h2
    have e1 : ((rowOf f n).setIfInBounds i (.int .u32 (nt x)))[j]? = some (.int .u32 (nt (up f i x j))) := by
      rw [Array.getElem?_setIfInBounds, rowOf_size, rowOf_get f n j h2]
      unfold up
      by_cases hij : i = j
      · subst hij; simp [h2]
      · rw [if_neg hij, if_neg (fun e => hij e.symm)]
    rw [← e1] at e2
    rw [Array.getElem?_eq_getElem h1, Array.getElem?_eq_getElem (by rw [rowOf_size]; exact h2)] at e2
    exact (Option.some.inj e2).symm
/-- Block B holds the n words f(0), f(1), .. -/
def Row (w : World) (B n T : Nat) (f : Nat → UInt32) : Prop := w.heap[B]? = some (.cells (rowOf f n) T (0, 0))
theorem Row.at {w : World} {B n T : Nat} {f : Nat → UInt32} (h : Row w B n T f) (j : Nat) (hj : j < n) : w.cell? ⟨B, j, none⟩ = some (.int .u32 (nt (f j))) ∧ w.frozen? ⟨B, j, none⟩ = false :=
  ⟨by rw [cell_of_row w B j _ T (0, 0) h, rowOf_get f n j hj], frozen_of_row w B j _ T h⟩
theorem Row.set {w : World} {B n T : Nat} {f : Nat → UInt32} (h : Row w B n T f) (i : Nat) (x : UInt32) : Row (w.setCell ⟨B, i, none⟩ (.int .u32 (nt x))) B n T (up f i x) := by
  unfold Row
  rw [heap_setCell_same w B i _ T _ h, rowOf_set]
theorem Row.other {w : World} {B n T : Nat} {f : Nat → UInt32} (h : Row w B n T f) (p : Addr) (v : Value) (hp : p.block ≠ B) : Row (w.setCell p v) B n T f := by
  unfold Row
  rw [heap_setCell_other w p B v (fun e => hp e.symm)]; exact h
theorem Row.below {w w' : World} {b B n T : Nat} {f : Nat → UInt32} (h : Row w B n T f) (hb : Below b w w') (hB : B < b) : Row w' B n T f := by
  unfold Row
  rw [hb.block B hB]; exact h
theorem Row.drew {w : World} {B n T : Nat} {f : Nat → UInt32} (h : Row w B n T f) : Row w.drew B n T f := h
theorem Row.lt {w : World} {B n T : Nat} {f : Nat → UInt32} (h : Row w B n T f) : B < w.heap.size := (Array.getElem?_eq_some_iff.1 h).1
/-- The word of four bytes. -/
def word4 (a b c d : UInt8) : UInt32 := UInt32.ofNat (a.toNat * 16777216 + b.toNat * 65536 + c.toNat * 256 + d.toNat)
theorem word4_or (a b c d : UInt8) : bits .or .u32 (bits .or .u32 (bits .or .u32 ((a.toNat : Int) * 16777216 % 4294967296) ((b.toNat : Int) * 65536 % 4294967296)) ((c.toNat : Int) * 256 % 4294967296)) (d.toNat : Int) = nt (word4 a b c d) := by
  have ha := a.toNat_lt
  have hb := b.toNat_lt
  have hc := c.toNat_lt
  have hd := d.toNat_lt
  rw [bits_join .u32 32 (by decide) (fun n h0 h1 => IntWalk.u32_in n (by omega)) 24 ((a.toNat : Int) * 16777216 % 4294967296) ((b.toNat : Int) * 65536 % 4294967296) (by omega) (by omega) (by omega) (by omega) (by omega) (by omega)]
  rw [bits_join .u32 32 (by decide) (fun n h0 h1 => IntWalk.u32_in n (by omega)) 16 _ ((c.toNat : Int) * 256 % 4294967296) (by omega) (by omega) (by omega) (by omega) (by omega) (by omega)]
  rw [bits_join .u32 32 (by decide) (fun n h0 h1 => IntWalk.u32_in n (by omega)) 8 _ (d.toNat : Int) (by omega) (by omega) (by omega) (by omega) (by omega) (by omega)]
  unfold nt word4
  rw [UInt32.toNat_ofNat']
  omega
theorem word4_wrap (a b c d : UInt8) : bits .or .u32 (bits .or .u32 (bits .or .u32 (IntKind.u32.wrap (IntKind.u32.wrap (a.toNat : Int) * 16777216)) (IntKind.u32.wrap (IntKind.u32.wrap (b.toNat : Int) * 65536))) (IntKind.u32.wrap (IntKind.u32.wrap (c.toNat : Int) * 256))) (IntKind.u32.wrap (d.toNat : Int)) = nt (word4 a b c d) := by
  have h : ∀ x : UInt8, IntKind.u32.wrap (x.toNat : Int) = (x.toNat : Int) := fun x => IntWalk.u32_in _ (by have := x.toNat_lt; omega)
  rw [h, h, h, h, IntKind.wrap_u32', IntKind.wrap_u32', IntKind.wrap_u32']
  exact word4_or a b c d
theorem Row.lit (w : World) (T n : Nat) (c : Array Value) (f : Nat → UInt32) (hc : c = rowOf f n) : Row (w.alloc (.cells c T)) w.heap.size n T f := by
  unfold Row
  rw [heap_alloc_new w _, hc]

theorem fwadd (a b : UInt32) : IntKind.u32.wrap (nt a + nt b) = nt (a + b) := by rw [IntKind.wrap_u32', fadd]
theorem fshr3 (x : UInt32) : nt x / 8 = nt (UInt32.ofNat (x.toNat / 8)) := by
  have := x.toNat_lt
  unfold nt; rw [UInt32.toNat_ofNat']; omega
theorem fshr10 (x : UInt32) : nt x / 1024 = nt (UInt32.ofNat (x.toNat / 1024)) := by
  have := x.toNat_lt
  unfold nt; rw [UInt32.toNat_ofNat']; omega

/-- The first sixteen words of a block. -/
def w16 (s : ByteArray) (i : Nat) : UInt32 := word4 (s.data.toList.getD (4 * i) 0) (s.data.toList.getD (4 * i + 1) 0) (s.data.toList.getD (4 * i + 2) 0) (s.data.toList.getD (4 * i + 3) 0)
theorem w16_at (s : ByteArray) (i : Nat) (h : 4 * i + 3 < s.size) : w16 s i = word4 s[4 * i] s[4 * i + 1] s[4 * i + 2] s[4 * i + 3] := by
  have e : ∀ j, (h : j < s.size) → s.data.toList.getD j 0 = s[j] := by
    intro j hj
    rw [List.getD_eq_getElem?_getD, List.getElem?_eq_getElem (by rw [← Lib.size_eq]; exact hj)]; rfl
  unfold w16
  rw [e _ (by omega), e _ (by omega), e _ (by omega), e _ (by omega)]

theorem two_rows (w : World) (c d : Array Value) (hc : c = rowOf (fun _ => 0) 64) (hd : d = rowOf (fun _ => 0) 64) :
    Row ((w.alloc (.cells c 80)).alloc (.cells d 80)) w.heap.size 64 80 (fun _ => 0) ∧ Row ((w.alloc (.cells c 80)).alloc (.cells d 80)) (w.heap.size + 1) 64 80 (fun _ => 0) ∧ Below w.heap.size w ((w.alloc (.cells c 80)).alloc (.cells d 80)) := by
  have h1 := Row.lit w 80 64 c _ hc
  have h2 := Row.lit (w.alloc (.cells c 80)) 80 64 d _ hd
  rw [show (w.alloc (.cells c 80)).heap.size = w.heap.size + 1 by simp] at h2
  refine ⟨h1.below (b := (w.alloc (.cells c 80)).heap.size) ((Below.refl _ _).alloc (Nat.le_refl _) _) (by simp), h2, ((Below.refl _ _).alloc (Nat.le_refl _) _).alloc (by simp) _⟩
theorem below_setRow {b : Nat} {a w : World} {g : Nat} {cs : Array Value} (h : Below b a w) (hg : b ≤ g) : Below b a (w.setRow g cs) :=
  h.trans ⟨rfl, rfl, rfl, by simp, fun k hk => setRow_other w g k cs (by omega)⟩
theorem infoQ42 : (Tryd.prog.info? 80).map (·.size) = some 64 := by kernel_rfl

end Go.Proofs.YtgmgbdihonindaaDoor.Sha
namespace Go.Proofs.YtgmgbdihonindaaDoor.Sha
open Go.RowKit

/-- The 64 numbers of the standard. -/
def ktab : List UInt32 := [0x428a2f98, 0x71374491, 0xb5c0fbcf, 0xe9b5dba5, 0x3956c25b, 0x59f111f1, 0x923f82a4, 0xab1c5ed5, 0xd807aa98, 0x12835b01, 0x243185be, 0x550c7dc3, 0x72be5d74, 0x80deb1fe, 0x9bdc06a7, 0xc19bf174, 0xe49b69c1, 0xefbe4786, 0x0fc19dc6, 0x240ca1cc, 0x2de92c6f, 0x4a7484aa, 0x5cb0a9dc, 0x76f988da, 0x983e5152, 0xa831c66d, 0xb00327c8, 0xbf597fc7, 0xc6e00bf3, 0xd5a79147, 0x06ca6351, 0x14292967, 0x27b70a85, 0x2e1b2138, 0x4d2c6dfc, 0x53380d13, 0x650a7354, 0x766a0abb, 0x81c2c92e, 0x92722c85, 0xa2bfe8a1, 0xa81a664b, 0xc24b8b70, 0xc76c51a3, 0xd192e819, 0xd6990624, 0xf40e3585, 0x106aa070, 0x19a4c116, 0x1e376c08, 0x2748774c, 0x34b0bcb5, 0x391c0cb3, 0x4ed8aa4a, 0x5b9cca4f, 0x682e6ff3, 0x748f82ee, 0x78a5636f, 0x84c87814, 0x8cc70208, 0x90befffa, 0xa4506ceb, 0xbef9a3f7, 0xc67178f2]
def kt (j : Nat) : UInt32 := ktab.getD j 0
/-- The variable b0 holds the numbers. -/
def KT (b : Nat) (w : World) : Prop := ∀ j, j < 64 → w.cell? ⟨b, j, none⟩ = some (.int .u32 (nt (kt j)))
theorem KT.lt {b : Nat} {w : World} (h : KT b w) : b < w.heap.size := block_lt_of_cell (h 0 (by omega))
theorem KT.below {b c : Nat} {w w' : World} (h : KT b w) (hb : Below c w w') (hc : b < c) : KT b w' := fun j hj => by
  rw [hb.cell (p := ⟨b, j, none⟩) hc]; exact h j hj

/-- One of the 64 rounds. -/
def rndf (f : Nat → UInt32) (word : UInt32) : Nat → UInt32
  | 0 => rx0 (f 7) (f 4) (f 5) (f 6) word + ry0 (f 0) (f 1) (f 2)
  | 1 => f 0
  | 2 => f 1
  | 3 => f 2
  | 4 => f 3 + rx0 (f 7) (f 4) (f 5) (f 6) word
  | 5 => f 4
  | 6 => f 5
  | _ => f 6
def st (f m : Nat → UInt32) : Nat → (Nat → UInt32)
  | 0 => f
  | n + 1 => rndf (st f m n) (kt n + m n)
def mixf (f : Nat → UInt32) (s : ByteArray) : Nat → UInt32 := fun j => f j + st f (W (w16 s)) 64 j
theorem infoQ34 : (Tryd.prog.info? 58).map (·.size) = some 8 := by kernel_rfl

theorem Row.heap {w : World} {B n T : Nat} {f : Nat → UInt32} (h : Row w B n T f) : w.heap[B]? = some (.cells (rowOf f n) T (0, 0)) := h
theorem Row.setRow {w : World} {B n T n' : Nat} {f g : Nat → UInt32} (h : Row w B n T f) (hn : n = n') : Row (w.setRow B (rowOf g n')) B n T g := by
  subst hn
  exact setRow_heap w B _ _ T (0, 0) h
theorem Row.setRow_other {w : World} {B n T g : Nat} {f : Nat → UInt32} {cs : Array Value} (h : Row w B n T f) (hg : B ≠ g) : Row (w.setRow g cs) B n T f := by
  unfold Row
  rw [Go.setRow_other w g B cs hg]; exact h
theorem after_w {w W0 w1 W2 : World} {f g : Nat → UInt32} {z : Array Value} (hh : Row W0 w.heap.size 8 58 f) (hres : Row W0 (w.heap.size + 1) 8 58 (fun _ => 0)) (hbel : Below w.heap.size w W0) (hsz : W0.heap.size = w.heap.size + 2) (hb1 : Below W0.heap.size W0 w1)
    (hW : (w1.alloc (.cells z 80)).setRow w1.heap.size (rowOf g 64) = W2) :
    Row W2 w.heap.size 8 58 f ∧ Row W2 (w.heap.size + 1) 8 58 (fun _ => 0) ∧ Row W2 w1.heap.size 64 80 g ∧ Below w.heap.size w W2 ∧ W2.heap.size = w1.heap.size + 1 := by
  subst hW
  have h1 := hb1.size
  have ha : Below w1.heap.size w1 (w1.alloc (.cells z 80)) := (Below.refl _ _).alloc (Nat.le_refl _) _
  have hb : Below w1.heap.size w1 ((w1.alloc (.cells z 80)).setRow w1.heap.size (rowOf g 64)) := below_setRow ha (Nat.le_refl _)
  refine ⟨(hh.below hb1 (by omega)).below hb (by omega), (hres.below hb1 (by omega)).below hb (by omega), ?_, (hbel.trans (hb1.mono (by omega))).trans (hb.mono (by omega)), by simp⟩
  exact setRow_heap _ _ z _ 80 (0, 0) (heap_alloc_new w1 _)

theorem after_v {w W0 w1 W2 W3 : World} {f g h : Nat → UInt32} {z : Array Value} (hh : Row W2 w.heap.size 8 58 f) (hres : Row W2 (w.heap.size + 1) 8 58 (fun _ => 0)) (hw : Row W2 w1.heap.size 64 80 g) (hbel : Below w.heap.size w W2) (h1s : W0.heap.size ≤ w1.heap.size) (hsz : W0.heap.size = w.heap.size + 2) (hsz2 : W2.heap.size = w1.heap.size + 1)
    (hW : (W2.alloc (.cells z 58)).setRow W2.heap.size (rowOf h 8) = W3) :
    Row W3 w.heap.size 8 58 f ∧ Row W3 (w.heap.size + 1) 8 58 (fun _ => 0) ∧ Row W3 w1.heap.size 64 80 g ∧ Row W3 W2.heap.size 8 58 h ∧ Below w.heap.size w W3 ∧ W3.heap.size = W2.heap.size + 1 := by
  subst hW
  have ha : Below W2.heap.size W2 (W2.alloc (.cells z 58)) := (Below.refl _ _).alloc (Nat.le_refl _) _
  have hb : Below W2.heap.size W2 ((W2.alloc (.cells z 58)).setRow W2.heap.size (rowOf h 8)) := below_setRow ha (Nat.le_refl _)
  refine ⟨hh.below hb (by omega), hres.below hb (by omega), hw.below hb (by omega), ?_, hbel.trans (hb.mono (by omega)), by simp⟩
  exact setRow_heap _ _ z _ 58 (0, 0) (heap_alloc_new W2 _)

/-- What holds in each round: the words as they came, the block's, and those on their way. -/
structure Inv (w wr : World) (f m : Nat → UInt32) (Bw Bv k : Nat) : Prop where
  h : Row wr w.heap.size 8 58 f
  res : Row wr (w.heap.size + 1) 8 58 (fun _ => 0)
  ws : Row wr Bw 64 80 m
  v : Row wr Bv 8 58 (st f m k)
  below : Below w.heap.size w wr
  lt1 : w.heap.size + 2 ≤ Bw
  lt2 : Bw < Bv
theorem Inv.step {w wr w' : World} {f m : Nat → UInt32} {Bw Bv k : Nat} (h : Inv w wr f m Bw Bv k) (hb : Below wr.heap.size wr w') : Inv w w' f m Bw Bv k :=
  ⟨h.h.below hb h.h.lt, h.res.below hb h.res.lt, h.ws.below hb h.ws.lt, h.v.below hb h.v.lt, h.below.trans (hb.mono h.below.size), h.lt1, h.lt2⟩

theorem Inv.next {w wr : World} {f m : Nat → UInt32} {Bw Bv k : Nat} (h : Inv w wr f m Bw Bv k) : Inv w (wr.setRow Bv (rowOf (rndf (st f m k) (kt k + m k)) 8)) f m Bw Bv (k + 1) := by
  have h1 := h.lt1
  have h2 := h.lt2
  exact ⟨h.h.setRow_other (by omega), h.res.setRow_other (by omega), h.ws.setRow_other (by omega), h.v.setRow rfl, below_setRow h.below (by omega), h1, h2⟩
/-- What holds while the words are added. -/
structure Inv2 (w wr : World) (f g : Nat → UInt32) (Bv k : Nat) (f' : Nat → UInt32) : Prop where
  h : Row wr w.heap.size 8 58 f'
  res : Row wr (w.heap.size + 1) 8 58 (fun _ => 0)
  v : Row wr Bv 8 58 g
  below : Below w.heap.size w wr
  lt : w.heap.size + 1 < Bv
  all : ∀ j, f' j = if j < k then f j + g j else f j
theorem Inv2.next {w wr : World} {f g : Nat → UInt32} {Bv k : Nat} {f' : Nat → UInt32} (h : Inv2 w wr f g Bv k f') : Inv2 w ((wr.setCell ⟨w.heap.size, k, none⟩ (.int .u32 (nt (f' k + g k)))).drew) f g Bv (k + 1) (up f' k (f' k + g k)) := by
  have hl := h.lt
  refine ⟨(h.h.set k _).drew, (h.res.other _ _ (by simp)).drew, (h.v.other _ _ (by simp; omega)).drew, (h.below.setCell (Nat.le_refl _) _).drew, hl, ?_⟩
  intro j
  unfold up
  have hk := h.all k
  rw [if_neg (by omega)] at hk
  by_cases e : j = k
  · rw [if_pos e, e, if_pos (by omega), hk]
  · rw [if_neg e, h.all j]
    by_cases hj : j < k
    · rw [if_pos hj, if_pos (by omega)]
    · rw [if_neg hj, if_neg (by omega)]

end Go.Proofs.YtgmgbdihonindaaDoor.Sha
namespace Go.Proofs.YtgmgbdihonindaaDoor.Buf
open Go.RowKit

/-- Bytes as values. -/
def vals (l : List UInt8) : List Value := l.map fun x => .int .u8 (x.toNat : Int)
theorem vals_length (l : List UInt8) : (vals l).length = l.length := by simp [vals]
theorem vals_append (a b : List UInt8) : vals (a ++ b) = vals a ++ vals b := by simp [vals]
theorem vals_get (l : List UInt8) (i : Nat) (h : i < l.length) : (vals l)[i]? = some (.int .u8 ((l[i]).toNat : Int)) := by
  simp [vals, h]
theorem vals_set (l : List UInt8) (i : Nat) (x : UInt8) : (vals l).set i (.int .u8 (x.toNat : Int)) = vals (l.set i x) := by
  unfold vals; rw [List.map_set]

/-- The slice v, made by the call (from block 'base' on), holds the bytes l. -/
def Buf (w : World) (base : Nat) (v : Value) (l : List UInt8) : Prop := w.ownsRow base 5 1 v l.length (vals l)

theorem info5 : (Tryd.prog.info? 5).map (fun i => (i.zero, i.size, i.bytes)) = some (some (.int .u8 0), 1, 1) := by kernel_rfl

theorem buf_cell {w : World} {base g n cap : Nat} {l : List UInt8} (h : Buf w base (.slice (some ⟨g, 0, none⟩) n cap) l) (hn : n = l.length) (i : Nat) (hi : i < l.length) :
    w.cell? ⟨g, i, none⟩ = some (.int .u8 ((l[i]).toNat : Int)) := by
  subst hn
  rw [World.ownsRow.cellAt h i (by omega), vals_get l i hi]
theorem buf_frozen {w : World} {base g n cap : Nat} {l : List UInt8} (h : Buf w base (.slice (some ⟨g, 0, none⟩) n cap) l) (hn : n = l.length) (i : Nat) :
    w.frozen? ⟨g, i, none⟩ = false := by
  subst hn
  exact World.ownsRow.frozenAt h i
theorem buf_store {w : World} {base g n cap : Nat} {l : List UInt8} (h : Buf w base (.slice (some ⟨g, 0, none⟩) n cap) l) (hn : n = l.length) (i : Nat) (x : UInt8) :
    Buf (w.setCell ⟨g, i, none⟩ (.int .u8 (x.toNat : Int))) base (.slice (some ⟨g, 0, none⟩) n cap) (l.set i x) := by
  subst hn
  have := (World.ownsRow.stored h i (.int .u8 (x.toNat : Int))).1
  unfold Buf
  rw [List.length_set, ← vals_set]
  exact this
theorem buf_lit {base : Nat} (w : World) (l : List UInt8) (hb : base ≤ w.heap.size) (hm : l.length ≤ maxLen) :
    Buf (w.alloc (.cells (vals l).toArray 5)) base (.slice (some ⟨w.heap.size, 0, none⟩) l.length l.length) l := by
  have := World.ownsRow_lit (base := base) (e := 5) (size := 1) w (vals l).toArray l.length hb hm (by simp [vals_length])
  simpa [Buf] using this

/-- As a string. -/
theorem buf_string {w : World} {base : Nat} {v : Value} {l : List UInt8} (h : Buf w base v l) :
    (convert 61 9 v).run Tryd.prog w = .ok (.string ⟨l.toArray⟩) w := by
  have h0 := h
  rcases h.2 with ⟨rfl, hn⟩ | ⟨g, cap, cur, rfl, _⟩
  · have hl : l = [] := List.eq_nil_of_length_eq_zero hn
    subst hl
    exact Lib.run_convert_nil_bytes w 61 9 5 0 Tryd.underlying61 Tryd.underlying5 Tryd.underlying9
  · have hb : Lib.Bytes w g 0 ⟨l.toArray⟩ := by
      intro i hi
      have hi' : i < l.length := by simpa [ByteArray.size] using hi
      rw [Nat.zero_add, buf_cell h0 rfl i hi']
      rfl
    have := Lib.run_convert_whole (P := Tryd.prog) w 61 5 9 Tryd.underlying61 Tryd.underlying5 Tryd.underlying9 g 0 ⟨l.toArray⟩ hb cap
    simpa [ByteArray.size] using this

theorem str_app (a b : List UInt8) : (⟨a.toArray⟩ : ByteArray) ++ ⟨b.toArray⟩ = ⟨(a ++ b).toArray⟩ := by
  apply ByteArray.ext
  rw [ByteArray.data_append]
  simp
theorem str_cons (x : UInt8) (b : List UInt8) : (⟨#[x]⟩ : ByteArray) ++ ⟨b.toArray⟩ = ⟨(x :: b).toArray⟩ := str_app [x] b
theorem str_snoc (b : List UInt8) (x : UInt8) : (⟨b.toArray⟩ : ByteArray) ++ ⟨#[x]⟩ = ⟨(b ++ [x]).toArray⟩ := str_app b [x]
theorem ret_two {a b c d : Value} (h1 : a = c) (h2 : b = d) : Ending.returned (.tuple #[a, b]) = .returned (.tuple #[c, d]) := by rw [h1, h2]
/-- What 'make' has laid: noughts. -/
theorem buf_made {w : World} {base n : Nat} {v : Value} (h : w.ownsRow base 5 1 v n (madeCells (Value.int .u8 0).cells (n * 1)).toList) : Buf w base v (List.replicate n 0) := by
  unfold Buf
  have e : vals (List.replicate n 0) = (madeCells (Value.int .u8 0).cells (n * 1)).toList := by
    show _ = (madeCells #[Value.int .u8 0] (n * 1)).toList
    rw [toList_madeCells_one, Nat.mul_one]
    simp [vals]
  rw [e, List.length_replicate]; exact h
/-- One byte as a string, out of the row that holds it alone. -/
theorem one_string (w : World) (n : Int) (x : UInt8) (h : n = (x.toNat : Int)) :
    (convert 61 9 (.slice (some ⟨w.heap.size, 0, none⟩) 1 1)).run Tryd.prog (w.alloc (.cells #[.int .u8 n] 5)) = .ok (.string ⟨#[x]⟩) (w.alloc (.cells #[.int .u8 n] 5)) := by
  subst h
  exact buf_string (buf_lit (base := 0) w [x] (Nat.zero_le _) (by unfold maxLen; simp))

theorem buf_alloc {w : World} {base : Nat} {v : Value} {l : List UInt8} (h : Buf w base v l) (o : Obj) : Buf (w.alloc o) base v l := World.ownsRow.alloc h o
theorem buf_drew {w : World} {base : Nat} {v : Value} {l : List UInt8} (h : Buf w base v l) : Buf w.drew base v l := World.ownsRow.drew h
theorem buf_drewN {w : World} {base : Nat} {v : Value} {l : List UInt8} (n : Nat) (h : Buf w base v l) : Buf (w.drewN n) base v l := by
  unfold Buf World.ownsRow at *
  exact h
/-- The cells of a row of bytes that was just laid. -/
theorem lit_cells (w : World) (news : List UInt8) : ∀ j, (h : j < news.length) → (w.alloc (.cells (vals news).toArray 5)).cell? ((⟨w.heap.size, 0, none⟩ : Addr).add j) = some (.int .u8 ((news[j]).toNat : Int)) := by
  intro j h
  rw [show (⟨w.heap.size, 0, none⟩ : Addr).add j = ⟨w.heap.size, j, none⟩ by simp [Addr.add]; omega, World.cell?_alloc_at _ _ _ _ rfl, List.getElem?_toArray, vals_get news j h]
theorem one_cells (w : World) (n : Int) (x : UInt8) (hn : n = (x.toNat : Int)) : ∀ j, (h : j < [x].length) → (w.alloc (.cells #[.int .u8 n] 5)).cell? ((⟨w.heap.size, 0, none⟩ : Addr).add j) = some (.int .u8 (([x][j]).toNat : Int)) := by
  subst hn
  exact lit_cells w [x]
/-- 'append' to a row of bytes that the call has made: it may grow. -/
theorem wpList_append {w : World} {ops : Array Oper} {rest : List Oper} {o : Oper} {a : Act} {Q : Exit → Act → World → Prop} (hgd : o.guard = none) (s x : Operand)
    (ho : o.op = .call { callee := .builtin .append, args := #[s, x], argTypes := #[61, 61] })
    (base : Nat) (v : Value) (l : List UInt8) (hs : a.eval s = v) (hbuf : Buf w base v l)
    (ad : Addr) (m c : Nat) (news : List UInt8) (hx : a.eval x = .slice (some ad) m c) (hl : news.length = m) (hnews : ∀ j, (h : j < news.length) → w.cell? (ad.add j) = some (.int .u8 ((news[j]).toNat : Int)))
    (hbound : l.length + m ≤ 140737488355328) (hbase : base ≤ w.heap.size)
    (h : ∀ v' w', Buf w' base v' (l ++ news) → (∀ w0, Below base w0 w → Below base w0 w') → wpList Tryd.prog ops Q rest (a.put o.dst v') w') : wpList Tryd.prog ops Q (o :: rest) a w := by
  obtain ⟨i0, hi, hz0, hz1, hz2⟩ := info_parts info5
  subst hl
  refine wpList_append_own w hgd s x 61 ho base 5 i0 (.int .u8 0) 1 1 Tryd.underlying61 hi hz0 hz1 hz2 rfl (by decide) v l.length (vals l) hs hbuf ad news.length c (vals news) hx (by rw [vals_length, Nat.mul_one]) ?_ ?_ (by unfold maxLen; omega) (by omega) hbase ?_
  · intro j u hj
    have hlt : j < news.length := by
      have := (List.getElem?_eq_some_iff.1 hj).1
      rwa [vals_length] at this
    rw [vals_get news j hlt] at hj
    rw [hnews j hlt, ← hj]
  · intro u hu
    unfold vals at hu
    obtain ⟨x, _, rfl⟩ := List.mem_map.1 hu
    rfl
  · intro v' w' h1 h2 _
    refine h v' w' ?_ (fun w0 hb => hb.grown h2 hbase (fun k hk => (World.ownsRow.lt hbuf k hk).1))
    unfold Buf
    rw [List.length_append, vals_append]
    exact h1
theorem vals_one (news : List UInt8) : ∀ u ∈ vals news, u.oneCell' = true := by
  intro u hu
  unfold vals at hu
  obtain ⟨x, _, rfl⟩ := List.mem_map.1 hu
  rfl
theorem vals_at {w : World} {ad : Addr} {news : List UInt8} (hnews : ∀ j, (h : j < news.length) → w.cell? (ad.add j) = some (.int .u8 ((news[j]).toNat : Int))) : ∀ j u, (vals news)[j]? = some u → w.cell? (ad.add j) = some u := by
  intro j u hj
  have hlt : j < news.length := by
    have := (List.getElem?_eq_some_iff.1 hj).1
    rwa [vals_length] at this
  rw [vals_get news j hlt] at hj
  rw [hnews j hlt, ← hj]
/-- The same as one step of a region that draws its order. -/
theorem step_append {w : World} {ops : Array Oper} {o : Oper} {a : Act} {K : Act → World → Prop} {Q : Exit → Act → World → Prop} {E : Prop} (hgd : o.guard = none) (s x : Operand)
    (ho : o.op = .call { callee := .builtin .append, args := #[s, x], argTypes := #[61, 61] })
    (base : Nat) (v : Value) (l : List UInt8) (hs : a.eval s = v) (hbuf : Buf w base v l)
    (ad : Addr) (m c : Nat) (news : List UInt8) (hx : a.eval x = .slice (some ad) m c) (hl : news.length = m) (hnews : ∀ j, (h : j < news.length) → w.cell? (ad.add j) = some (.int .u8 ((news[j]).toNat : Int)))
    (hm : 0 < m) (hbound : l.length + m ≤ 140737488355328) (hbase : base ≤ w.heap.size)
    (h : ∀ g cap w', Buf w' base (.slice (some ⟨g, 0, none⟩) (l.length + m) cap) (l ++ news) → (∀ w0, Below base w0 w → Below base w0 w') → K (a.put o.dst (.slice (some ⟨g, 0, none⟩) (l.length + m) cap)) w') :
    if Region.wanted o (yielded ops a.tmps) = true then Oper.wp Tryd.prog o a w K Q else E := by
  obtain ⟨i0, hi, hz0, hz1, hz2⟩ := info_parts info5
  subst hl
  refine step_append_lies w hgd s x 61 ho base 5 i0 (.int .u8 0) 1 1 Tryd.underlying61 hi hz0 hz1 hz2 rfl (by decide) v l.length (vals l) hs hbuf ad news.length c (vals news) hx (by rw [vals_length, Nat.mul_one]) (vals_at hnews) (vals_one news) hm (by unfold maxLen; omega) (by omega) hbase w.heap.size rfl ?_
  intro g cap w' h1 h2 _ _
  refine h g cap w' ?_ (fun w0 hb => hb.grown h2 hbase (fun k hk => (World.ownsRow.lt hbuf k hk).1))
  unfold Buf
  rw [List.length_append, vals_append]
  exact h1
/-- 'append' of at least one byte: the slice is written out. -/
theorem wpList_append_at {w : World} {ops : Array Oper} {rest : List Oper} {o : Oper} {a : Act} {Q : Exit → Act → World → Prop} (hgd : o.guard = none) (s x : Operand)
    (ho : o.op = .call { callee := .builtin .append, args := #[s, x], argTypes := #[61, 61] })
    (base : Nat) (v : Value) (l : List UInt8) (hs : a.eval s = v) (hbuf : Buf w base v l)
    (ad : Addr) (m c : Nat) (news : List UInt8) (hx : a.eval x = .slice (some ad) m c) (hl : news.length = m) (hnews : ∀ j, (h : j < news.length) → w.cell? (ad.add j) = some (.int .u8 ((news[j]).toNat : Int)))
    (hm : 0 < m) (hbound : l.length + m ≤ 140737488355328) (hbase : base ≤ w.heap.size)
    (h : ∀ g cap w', Buf w' base (.slice (some ⟨g, 0, none⟩) (l.length + m) cap) (l ++ news) → (∀ w0, Below base w0 w → Below base w0 w') → wpList Tryd.prog ops Q rest (a.put o.dst (.slice (some ⟨g, 0, none⟩) (l.length + m) cap)) w') : wpList Tryd.prog ops Q (o :: rest) a w := by
  obtain ⟨i0, hi, hz0, hz1, hz2⟩ := info_parts info5
  subst hl
  refine wpList_append_lies w hgd s x 61 ho base 5 i0 (.int .u8 0) 1 1 Tryd.underlying61 hi hz0 hz1 hz2 rfl (by decide) v l.length (vals l) hs hbuf ad news.length c (vals news) hx (by rw [vals_length, Nat.mul_one]) (vals_at hnews) (vals_one news) hm (by unfold maxLen; omega) (by omega) hbase w.heap.size rfl ?_
  intro g cap w' h1 h2 _ _
  refine h g cap w' ?_ (fun w0 hb => hb.grown h2 hbase (fun k hk => (World.ownsRow.lt hbuf k hk).1))
  unfold Buf
  rw [List.length_append, vals_append]
  exact h1
end Go.Proofs.YtgmgbdihonindaaDoor.Buf
namespace Go.Proofs.YtgmgbdihonindaaDoor.Sha
open Go.RowKit

/-- A word's four bytes, the highest first. -/
def by4 (x : UInt32) : List UInt8 := [UInt8.ofNat (x.toNat / 16777216), UInt8.ofNat (x.toNat / 65536), UInt8.ofNat (x.toNat / 256), UInt8.ofNat x.toNat]
def spellN (f : Nat → UInt32) : Nat → List UInt8
  | 0 => []
  | n + 1 => spellN f n ++ by4 (f n)
theorem spellN_length (f : Nat → UInt32) (n : Nat) : (spellN f n).length = 4 * n := by
  induction n with
  | zero => rfl
  | succ n ih => rw [spellN, List.length_append, ih]; rfl
theorem fb3 (x : UInt32) : nt x / 16777216 % 256 = ((UInt8.ofNat (x.toNat / 16777216)).toNat : Int) := by unfold nt; rw [UInt8.toNat_ofNat']; omega
theorem fb2 (x : UInt32) : nt x / 65536 % 256 = ((UInt8.ofNat (x.toNat / 65536)).toNat : Int) := by unfold nt; rw [UInt8.toNat_ofNat']; omega
theorem fb1 (x : UInt32) : nt x / 256 % 256 = ((UInt8.ofNat (x.toNat / 256)).toNat : Int) := by unfold nt; rw [UInt8.toNat_ofNat']; omega
theorem fb0 (x : UInt32) : nt x % 256 = ((UInt8.ofNat x.toNat).toNat : Int) := by unfold nt; rw [UInt8.toNat_ofNat']; omega

theorem cell_keep {base : Nat} {w1 w' : World} {a : Addr} {v : Value} (hbelf : ∀ w0, Below base w0 w1 → Below base w0 w') (hc : w1.cell? a = some v) (ha : a.block < base) : w'.cell? a = some v := by
  rw [(hbelf w1 (Below.refl _ _)).cell ha]; exact hc

end Go.Proofs.YtgmgbdihonindaaDoor.Sha
namespace Go.Proofs.YtgmgbdihonindaaDoor.Sha
open Go.RowKit

/-- How many noughts come behind the mark. -/
def pad (n : Nat) : Nat := (119 - n % 64) % 64
theorem pad_le (n : Nat) : pad n ≤ 63 := by unfold pad; omega
theorem pad_go {n z : Nat} (h : z < pad n) : (n + (z + 1)) % 64 ≠ 56 := by unfold pad at h; omega
theorem pad_end (n : Nat) : (n + (pad n + 1)) % 64 = 56 := by unfold pad; omega
/-- A byte of a message's length. -/
def lenb (n i : Nat) : UInt8 := UInt8.ofNat (n * 8 / 2 ^ (56 - 8 * i))
theorem lenb_int (n i : Nat) : (n : Int) * 8 / 2 ^ (56 - 8 * i) % 256 = ((lenb n i).toNat : Int) := by
  unfold lenb
  rw [UInt8.toNat_ofNat', Int.natCast_emod, Int.natCast_ediv, Int.natCast_mul, Int.natCast_pow]; rfl
def lens (n : Nat) : Nat → List UInt8
  | 0 => []
  | k + 1 => lens n k ++ [lenb n k]
theorem lens_length (n k : Nat) : (lens n k).length = k := by
  induction k with
  | zero => rfl
  | succ k ih => simp [lens, ih]
def fill (n : Nat) : List UInt8 := 128 :: (List.replicate (pad n) 0 ++ lens n 8)
def sliceLen : Value → Nat
  | .slice _ n _ => n
  | _ => 0

end Go.Proofs.YtgmgbdihonindaaDoor.Sha
namespace Go.Proofs.YtgmgbdihonindaaDoor.Sha
open Go.RowKit

def h0 (j : Nat) : UInt32 := [0x6a09e667, 0xbb67ae85, 0x3c6ef372, 0xa54ff53a, 0x510e527f, 0x9b05688c, 0x1f83d9ab, 0x5be0cd19].getD j 0
def blk (l : List UInt8) (k : Nat) : ByteArray := ⟨((l.drop (64 * k)).take 64).toArray⟩
def runN (l : List UInt8) : Nat → (Nat → UInt32)
  | 0 => h0
  | k + 1 => mixf (runN l k) (blk l k)
def msg (s : ByteArray) : List UInt8 := s.data.toList ++ fill s.size
/-- The sum of a message. -/
def sha (s : ByteArray) : List UInt8 := spellN (runN (msg s) ((msg s).length / 64)) 8
theorem fill_length (n : Nat) : (fill n).length = pad n + 9 := by simp [fill, lens_length]
theorem msg_length (s : ByteArray) : (msg s).length = s.size + pad s.size + 9 := by
  unfold msg; rw [List.length_append, fill_length, ← Lib.size_eq]; omega
theorem msg_mod (s : ByteArray) : (msg s).length % 64 = 0 := by
  rw [msg_length]; unfold pad; omega
theorem blk_size (l : List UInt8) (k : Nat) (h : 64 * k + 64 ≤ l.length) : (blk l k).size = 64 := by
  show ((l.drop (64 * k)).take 64).toArray.size = 64
  simp; omega
theorem eq_of_list {a b : ByteArray} (h : a.data.toList = b.data.toList) : a = b := by
  apply ByteArray.ext
  exact Array.toList_inj.1 h
theorem blk_front (s : ByteArray) (k : Nat) (h : 64 * k + 64 ≤ s.size) : s.extract (64 * k) (64 * k + 64) = blk (msg s) k := by
  apply eq_of_list
  rw [Lib.extract_data]
  show _ = ((msg s).drop (64 * k)).take 64
  unfold msg
  rw [List.drop_append_of_le_length (by rw [← Lib.size_eq]; omega), List.take_append_of_le_length (by rw [List.length_drop, ← Lib.size_eq]; omega)]
  congr 1; omega
theorem blk_back (s last : ByteArray) (k j : Nat) (hl : last.data.toList = (msg s).drop (64 * k)) : last.extract (64 * j) (64 * j + 64) = blk (msg s) (k + j) := by
  apply eq_of_list
  rw [Lib.extract_data, hl]
  show _ = ((msg s).drop (64 * (k + j))).take 64
  rw [List.drop_drop]
  congr 1
  · omega
  · congr 1; omega

end Go.Proofs.YtgmgbdihonindaaDoor.Sha
namespace Go.Proofs.YtgmgbdihonindaaDoor.Sha
open Go.RowKit

theorem lens_next (n j : Nat) (hj : j < 8) : lens n (8 - j) = lens n (7 - j) ++ [lenb n (7 - j)] := by
  rw [show 8 - j = (7 - j) + 1 by omega, lens]
theorem lenb_ref (n j : Nat) (hj : j < 8) : (n : Int) * 8 / 2 ^ (8 * j) % 256 = ((lenb n (7 - j)).toNat : Int) := by
  have := lenb_int n (7 - j)
  rw [show 56 - 8 * (7 - j) = 8 * j by omega] at this
  exact this

set_option maxRecDepth 1000000 in
set_option maxHeartbeats 800000 in
theorem padded_any (s : ByteArray) (w : World) (hs : s.size ≤ 250000) :
    Calls Tryd.prog 26 #[.string s] w fun e w' => ∃ b : ByteArray, e = .returned (.string b) ∧ b.data.toList = msg s ∧ Below w.heap.size w w' := by
  have hw0 : IntKind.u64.wrap (s.size : Int) = (s.size : Int) := IntWalk.u64_in _ (by omega)
  have hw1 : IntKind.u64.wrap ((s.size : Int) * 8) = (s.size : Int) * 8 := IntWalk.u64_in _ (by omega)
  go_enter Tryd.func26, Tryd.ntmps26
  go_wp2_with fail
  go_loopw [0] (fun sv wr => ∃ (z : Nat) (b : ByteArray), z ≤ pad s.size ∧ sv = .string b ∧ b.size = s.size + (z + 1) ∧ Hid (b.data.toList = s.data.toList ++ (128 :: List.replicate z 0)) ∧ Below w.heap.size w wr) (fun sv _ => s.size + 70 - (match sv with | .string b => b.size | _ => 0))
  case atStart => exact ⟨0, _, Nat.zero_le _, rfl, by rw [ByteArray.size_append]; rfl, by show (s ++ _ : ByteArray).data.toList = _; rw [ByteArray.data_append, Array.toList_append]; rfl, Below.refl _ _⟩
  case round =>
    obtain ⟨z, b, hz, rfl, hbs, hbl, hbel⟩ := hrel
    have hp := pad_le s.size
    by_cases hlt : z < pad s.size
    · have ht := pad_go hlt
      have ht' : (((b.size : Nat) : Int) % 64 != 56) = true := by rw [bne_iff_ne]; omega
      have HBS := Lib.hid hbs
      have hbb : b.size ≤ 260000 := by omega
      clear ht hbs
      go_wp2
      go_roundw
      case rel => exact ⟨z + 1, _, by omega, rfl, by rw [ByteArray.size_append, HBS.out]; show _ + 1 = _; omega, by show (b ++ _ : ByteArray).data.toList = _; rw [ByteArray.data_append, Array.toList_append, hbl.out, List.replicate_succ', List.append_assoc]; rfl, hbel⟩
      case measure => have := HBS.out; show s.size + 70 - (b ++ _ : ByteArray).size < s.size + 70 - b.size; rw [ByteArray.size_append]; show s.size + 70 - (b.size + 1) < _; omega
    · obtain rfl : z = pad s.size := by omega
      have ht := pad_end s.size
      have ht' : (((b.size : Nat) : Int) % 64 != 56) = false := by rw [bne_eq_false_iff_eq]; omega
      have HBL := Lib.hid (show b.data.toList = s.data.toList ++ (128 :: (List.replicate (pad s.size) 0 ++ lens s.size (8 - 8))) by rw [hbl.out]; simp [lens])
      have hbb : b.size ≤ 250000 + 64 + 8 - 8 := by omega
      clear ht hbs hbl hlt hz
      go_wp2
      go_loopw [0, 4] (fun sv iv wr => ∃ (j : Nat) (b : ByteArray), j ≤ 8 ∧ sv = .string b ∧ iv = .int .i64 ((j : Int) - 1) ∧ b.size ≤ 250000 + 64 + 8 - j ∧ Hid (b.data.toList = s.data.toList ++ (128 :: (List.replicate (pad s.size) 0 ++ lens s.size (8 - j)))) ∧ Below w.heap.size w wr) (fun _ iv _ => (intOf iv + 1).toNat)
      case atStart => exact ⟨8, b, by omega, rfl, rfl, hbb, HBL, hbel⟩
      case round =>
        clear hbb HBL ht' hbel
        obtain ⟨j, b, hj, rfl, rfl, hbb, hbl, hbel⟩ := hrel
        cases j with
        | zero =>
          go_wp2
          go_ret
          exact ⟨_, rfl, by rw [hbl.out]; rfl, hbel⟩
        | succ j =>
          rw [show ((j + 1 : Nat) : Int) - 1 = (j : Int) by omega]
          have hby := lenb_ref s.size j (by omega)
          have hu0 : IntKind.u64.wrap (j : Int) = (j : Int) := IntWalk.u64_in _ (by omega)
          have hu1 : IntKind.u64.wrap (8 * (j : Int)) = 8 * (j : Int) := IntWalk.u64_in _ (by omega)
          have hsz := hbel.size
          have ho := fun W : World => Buf.one_string W ((lenb s.size (7 - j)).toNat : Int) _ rfl
          go_wp2
          go_roundw
          case rel =>
            refine ⟨j, _, by omega, rfl, rfl, ?_, ?_, hbel.alloc hsz _⟩
            · rw [ByteArray.size_append]; show b.size + 1 ≤ _; omega
            · show (b ++ _ : ByteArray).data.toList = _
              rw [ByteArray.data_append, Array.toList_append, hbl.out, show 8 - (j + 1) = 7 - j by omega, lens_next _ _ (by omega)]
              simp
          case measure => (simp [intOf]; try omega)
end Go.Proofs.YtgmgbdihonindaaDoor.Sha
namespace Go.Proofs.YtgmgbdihonindaaDoor.Sha
open Go.RowKit

def tOf (k : Int) : Nat := 32 - k.toNat
theorem turn_open (x : UInt32) (k : Int) (w : World) (h : 1 ≤ k ∧ k ≤ 31) :
    Calls Tryd.prog 46 #[.int .u32 (nt x), .int .u64 k] w fun e w' => e = .returned (.int .u32 (nt (rl x (tOf k)))) ∧ w' = w := by
  have := turn_ref x k.toNat w (by omega) (by omega)
  rw [Int.toNat_of_nonneg (by omega)] at this
  exact this.mono fun _ _ ⟨a, b⟩ => ⟨a, b.symm⟩
theorem tq (x : UInt32) (k : Int) (w : World) (h : 1 ≤ k ∧ k ≤ 31) :
    Calls Tryd.prog 46 #[.int .u32 (nt x), .int .u64 k] w fun e w' => e = .returned (.int .u32 (nt (rl x (tOf k)))) ∧ w = w' :=
  (turn_open x k w h).mono fun _ _ ⟨a, b⟩ => ⟨a, b.symm⟩
theorem t7 : tOf 7 = sOf (-7) := by decide +kernel
theorem t18 : tOf 18 = sOf (-18) := by decide +kernel
theorem t17 : tOf 17 = sOf (-17) := by decide +kernel
theorem t19 : tOf 19 = sOf (-19) := by decide +kernel
theorem t6 : tOf 6 = sOf (-6) := by decide +kernel
theorem t11 : tOf 11 = sOf (-11) := by decide +kernel
theorem t25 : tOf 25 = sOf (-25) := by decide +kernel
theorem t2 : tOf 2 = sOf (-2) := by decide +kernel
theorem t13 : tOf 13 = sOf (-13) := by decide +kernel
theorem t22 : tOf 22 = sOf (-22) := by decide +kernel

/-- What holds while the block's words are made. -/
structure Inv0 (w wr : World) (f g : Nat → UInt32) (B : Nat) : Prop where
  h : Row wr w.heap.size 8 58 f
  res : Row wr (w.heap.size + 1) 8 58 (fun _ => 0)
  ws : Row wr B 64 80 g
  below : Below w.heap.size w wr
  lt : w.heap.size + 2 ≤ B
theorem Inv0.set {w wr : World} {f g : Nat → UInt32} {B : Nat} (h : Inv0 w wr f g B) (k : Nat) (x : UInt32) : Inv0 w ((wr.setCell ⟨B, k, none⟩ (.int .u32 (nt x))).drew) f (up g k x) B := by
  have hl := h.lt
  exact ⟨(h.h.other _ _ (by simp; omega)).drew, (h.res.other _ _ (by simp; omega)).drew, (h.ws.set k x).drew, (h.below.setCell (by simp; omega) _).drew, hl⟩
theorem Inv0.drewN {w wr : World} {f g : Nat → UInt32} {B : Nat} (h : Inv0 w wr f g B) (n : Nat) : Inv0 w (wr.drewN n) f g B := ⟨h.h, h.res, h.ws, below_drewN h.below n, h.lt⟩
theorem three_rows (w : World) (c d e : Array Value) (f : Nat → UInt32) (hc : c = rowOf f 8) (hd : d = rowOf (fun _ => 0) 8) (he : e = rowOf (fun _ => 0) 64) :
    Inv0 w (((w.alloc (.cells c 58)).alloc (.cells d 58)).alloc (.cells e 80)) f (fun _ => 0) (w.heap.size + 2) := by
  have h1 := Row.lit w 58 8 c _ hc
  have h2 := Row.lit (w.alloc (.cells c 58)) 58 8 d _ hd
  have h3 := Row.lit ((w.alloc (.cells c 58)).alloc (.cells d 58)) 80 64 e _ he
  rw [show (w.alloc (.cells c 58)).heap.size = w.heap.size + 1 by simp] at h2
  rw [show ((w.alloc (.cells c 58)).alloc (.cells d 58)).heap.size = w.heap.size + 2 by simp] at h3
  have b2 : Below (w.heap.size + 2) ((w.alloc (.cells c 58)).alloc (.cells d 58)) (((w.alloc (.cells c 58)).alloc (.cells d 58)).alloc (.cells e 80)) := (Below.refl _ _).alloc (by simp) _
  have b1 : Below (w.heap.size + 1) (w.alloc (.cells c 58)) ((w.alloc (.cells c 58)).alloc (.cells d 58)) := (Below.refl _ _).alloc (by simp) _
  exact ⟨(h1.below b1 (by omega)).below b2 (by omega), h2.below b2 (by omega), h3, (((Below.refl _ _).alloc (Nat.le_refl _) _).alloc (by simp) _).alloc (by simp; omega) _, Nat.le_refl _⟩

theorem fadd5 (a b c d e : UInt32) : (nt a + nt b + nt c + nt d + nt e) % 4294967296 = nt (a + b + c + d + e) := by
  rw [← fadd, ← fadd4, Int.emod_add_emod]
theorem Inv0.toV {w wr W3 : World} {f g m : Nat → UInt32} {B : Nat} {z : Array Value} (h : Inv0 w wr f g B) (hg : ∀ j, j < 64 → g j = m j) (hW : (wr.alloc (.cells z 58)).setRow wr.heap.size (rowOf f 8) = W3) : Inv w W3 f m B wr.heap.size 0 := by
  subst hW
  have ha : Below wr.heap.size wr (wr.alloc (.cells z 58)) := (Below.refl _ _).alloc (Nat.le_refl _) _
  have hb : Below wr.heap.size wr ((wr.alloc (.cells z 58)).setRow wr.heap.size (rowOf f 8)) := below_setRow ha (Nat.le_refl _)
  have hws : Row wr B 64 80 m := by have := h.ws; unfold Row at this ⊢; rw [this, rowOf_congr hg]
  exact ⟨h.h.below hb h.h.lt, h.res.below hb h.res.lt, hws.below hb hws.lt, setRow_heap _ _ z _ 58 (0, 0) (heap_alloc_new wr _), h.below.trans (hb.mono h.below.size), h.lt, hws.lt⟩
theorem Inv.drewN {w wr : World} {f m : Nat → UInt32} {Bw Bv k : Nat} (h : Inv w wr f m Bw Bv k) (n : Nat) : Inv w (wr.drewN n) f m Bw Bv k := ⟨h.h, h.res, h.ws, h.v, below_drewN h.below n, h.lt1, h.lt2⟩
theorem Inv.next' {w wr : World} {f m : Nat → UInt32} {Bw Bv k : Nat} {cs : Array Value} (h : Inv w wr f m Bw Bv k) (hcs : cs = rowOf (rndf (st f m k) (kt k + m k)) 8) : Inv w (wr.setRow Bv cs) f m Bw Bv (k + 1) := by
  subst hcs; exact h.next

set_option maxRecDepth 1000000 in
set_option maxHeartbeats 1600000 in
theorem step_any (f : Nat → UInt32) (s : ByteArray) (w : World) (hs : s.size = 64) (hk : KT 0 w) :
    Calls Tryd.prog 27 #[.agg (rowOf f 8), .string s] w fun e w' => e = .returned (.agg (rowOf (mixf f s) 8)) ∧ Below w.heap.size w w' := by
  have HS := Lib.hid hs
  have HK := Lib.hid hk
  clear hs hk
  have h8 : rowOf f 8 = #[.int .u32 (nt (f 0)), .int .u32 (nt (f 1)), .int .u32 (nt (f 2)), .int .u32 (nt (f 3)), .int .u32 (nt (f 4)), .int .u32 (nt (f 5)), .int .u32 (nt (f 6)), .int .u32 (nt (f 7))] := rfl
  rw [h8]
  clear h8
  go_enter Tryd.func27, Tryd.ntmps27
  go_wp2_with fail
  generalize hW : (World.alloc (World.alloc (World.alloc w _) _) _) = W0
  have hinv : Inv0 w W0 f (fun _ => 0) (w.heap.size + 2) := by
    rw [← hW]
    exact three_rows w _ _ _ f rfl rfl rfl
  clear hW
  obtain ⟨B, hB⟩ : ∃ B, B = w.heap.size + 2 := ⟨_, rfl⟩
  try rw [show w.heap.size + 1 + 1 = w.heap.size + 2 from rfl]
  rw [← hB] at hinv ⊢
  clear hB
  go_loopw [6] (fun iv wr => ∃ (k : Nat) (g : Nat → UInt32), k ≤ 16 ∧ iv = .int .i64 k ∧ Inv0 w wr f g B ∧ Hid (∀ j, j < k → g j = w16 s j)) (fun iv _ => 16 - (intOf iv).toNat)
  case atStart => exact ⟨0, fun _ => 0, by omega, rfl, hinv, fun j hj => absurd hj (by omega)⟩
  case round =>
    clear hinv
    obtain ⟨k, g, hk, rfl, hinv, hf⟩ := hrel
    by_cases hlt : k < 16
    · obtain ⟨hc, hfz⟩ := hinv.ws.at k (by omega)
      have hx0 : ((4 : Int) * (k : Int)).toNat = 4 * k := by omega
      have hx1 : ((4 : Int) * (k : Int) + 1).toNat = 4 * k + 1 := by omega
      have hx2 : ((4 : Int) * (k : Int) + 2).toNat = 4 * k + 2 := by omega
      have hx3 : ((4 : Int) * (k : Int) + 3).toNat = 4 * k + 3 := by omega
      have hy0 : (0 : Int) ≤ (4 : Int) * (k : Int) := by omega
      have hz1 : (0 : Int) ≤ (4 : Int) * (k : Int) + 1 := by omega
      have hz2 : (0 : Int) ≤ (4 : Int) * (k : Int) + 2 := by omega
      have hz3 : (0 : Int) ≤ (4 : Int) * (k : Int) + 3 := by omega
      have hy00 : (4 : Int) * (k : Int) < (s.size : Int) := by have := HS.out; omega
      have hy1 : (4 : Int) * (k : Int) + 1 < (s.size : Int) := by have := HS.out; omega
      have hy2 : (4 : Int) * (k : Int) + 2 < (s.size : Int) := by have := HS.out; omega
      have hy3 : (4 : Int) * (k : Int) + 3 < (s.size : Int) := by have := HS.out; omega
      have hw0 : IntKind.i64.wrap ((4 : Int) * (k : Int)) = 4 * k := IntWalk.i64_in _ (by omega)
      have hw1 : IntKind.i64.wrap ((4 : Int) * (k : Int) + 1) = 4 * k + 1 := IntWalk.i64_in _ (by omega)
      have hw2 : IntKind.i64.wrap ((4 : Int) * (k : Int) + 2) = 4 * k + 2 := IntWalk.i64_in _ (by omega)
      have hw3 : IntKind.i64.wrap ((4 : Int) * (k : Int) + 3) = 4 * k + 3 := IntWalk.i64_in _ (by omega)
      have hk0 : (0 : Int) ≤ (k : Int) := by omega
      have hk64 : (k : Int) < 64 := by omega
      go_wp2_with fail
      go_still_tail 31, (by kernel_rfl)
      change wpList _ _ _ _ _ wr.drew
      have hword := (word4_wrap (s[4 * k]'(by omega)) (s[4 * k + 1]'(by omega)) (s[4 * k + 2]'(by omega)) (s[4 * k + 3]'(by omega))).trans (congrArg nt (w16_at s k (by omega)).symm)
      rw [hword]
      generalize (s[4 * k]'(by omega)).toNat = b0
      generalize (s[4 * k + 1]'(by omega)).toNat = b1
      generalize (s[4 * k + 2]'(by omega)).toNat = b2
      generalize (s[4 * k + 3]'(by omega)).toNat = b3
      clear hword hw0 hw1 hw2 hw3 hx0 hx1 hx2 hx3 hy0 hz1 hz2 hz3 hy00 hy1 hy2 hy3
      go_wp2
      go_roundw
      case rel =>
        exact ⟨k + 1, _, by omega, by go_num, hinv.set k (w16 s k), fun j hj => by (unfold up; by_cases e : j = k; (rw [if_pos e, e]); (rw [if_neg e]; exact hf.out j (by omega)))⟩
      case measure => simp [intOf]; omega
    · obtain rfl : k = 16 := by omega
      rw [show ((16 : Nat) : Int) = (16 : Int) from rfl]
      have hx := fxor
      have hr3 := fshr3
      have hr10 := fshr10
      have hwa := fwadd
      go_wp2
      go_loopw [7] (fun iv wr => ∃ (p : Nat) (g : Nat → UInt32), p ≤ 48 ∧ iv = .int .i64 ((p : Int) + 16) ∧ Inv0 w wr f g B ∧ Hid (∀ j, j < p + 16 → g j = W (w16 s) j)) (fun iv _ => 64 - (intOf iv).toNat)
      case atStart => exact ⟨0, g, by omega, rfl, hinv, fun j hj => by rw [W_lo _ _ (by omega)]; exact hf.out j (by omega)⟩
      case round =>
        clear hf hinv
        obtain ⟨p, g, hp, rfl, hinv, hf⟩ := hrel
        by_cases hlt : p < 48
        · obtain ⟨hc1, _⟩ := hinv.ws.at (p + 1) (by omega)
          obtain ⟨hc14, _⟩ := hinv.ws.at (p + 14) (by omega)
          have hlt' : (p : Int) + 16 < 64 := by omega
          have hq15 : IntKind.i64.wrap ((p : Int) + 16 - 15) = (p : Int) + 1 := by rw [show (p : Int) + 16 - 15 = (p : Int) + 1 by omega]; exact IntWalk.i64_in _ (by omega)
          have hn15 : (0 : Int) ≤ (p : Int) + 1 := by omega
          have hl15 : (p : Int) + 1 < 64 := by omega
          have ht15 : ((p : Int) + 1).toNat = p + 1 := by omega
          have hq2 : IntKind.i64.wrap ((p : Int) + 16 - 2) = (p : Int) + 14 := by rw [show (p : Int) + 16 - 2 = (p : Int) + 14 by omega]; exact IntWalk.i64_in _ (by omega)
          have hn2 : (0 : Int) ≤ (p : Int) + 14 := by omega
          have hl2 : (p : Int) + 14 < 64 := by omega
          have ht2 : ((p : Int) + 14).toNat = p + 14 := by omega
          go_wp2_with fail
          go_quiet (fail)
          generalize hwq : wr.drewN _ = w2
          have hinv2 : Inv0 w w2 f g B := by rw [← hwq]; exact hinv.drewN _
          clear hwq hc1 hc14 hinv hq15 hn15 hl15 ht15 hq2 hn2 hl2 ht2
          obtain ⟨hc0, _⟩ := hinv2.ws.at p (by omega)
          obtain ⟨hc9, _⟩ := hinv2.ws.at (p + 9) (by omega)
          obtain ⟨hc16, hfz⟩ := hinv2.ws.at (p + 16) (by omega)
          have hq16 : IntKind.i64.wrap ((p : Int) + 16 - 16) = (p : Int) := by rw [show (p : Int) + 16 - 16 = (p : Int) by omega]; exact IntWalk.i64_in _ (by omega)
          have hn16 : (0 : Int) ≤ (p : Int) := by omega
          have hl16 : (p : Int) < 64 := by omega
          have hq7 : IntKind.i64.wrap ((p : Int) + 16 - 7) = (p : Int) + 9 := by rw [show (p : Int) + 16 - 7 = (p : Int) + 9 by omega]; exact IntWalk.i64_in _ (by omega)
          have hn7 : (0 : Int) ≤ (p : Int) + 9 := by omega
          have hl7 : (p : Int) + 9 < 64 := by omega
          have ht7 : ((p : Int) + 9).toNat = p + 9 := by omega
          have hq00 : IntKind.i64.wrap (p : Int) = (p : Int) := IntWalk.i64_in _ (by omega)
          have ht0 : ((p : Int) + 16).toNat = p + 16 := by omega
          have hn0 : (0 : Int) ≤ (p : Int) + 16 := by omega
          go_wp2_with fail
          refine wp_region_still_tail 29 (by kernel_rfl) (by kernel_rfl) ?_
          simp only [List.take_succ_cons, List.take_zero, List.drop_succ_cons, List.drop_zero]
          repeat (first | still_step | still_call (turn_open _ _ _ (by decide)))
          refine wpStill_nil ?_
          change wpList _ _ _ _ _ w2.drew
          clear hc0 hc9 hq16 hn16 hl16 hq7 hn7 hl7 ht7 hq00 ht0 hn0
          go_wp2
          go_roundw
          case rel =>
            refine ⟨p + 1, _, by omega, by go_num, hinv2.set (p + 16) _, ?_⟩
            intro j hj
            unfold up
            by_cases e : j = p + 16
            · rw [if_pos e, e, W_hi, hf.out p (by omega), hf.out (p + 1) (by omega), hf.out (p + 9) (by omega), hf.out (p + 14) (by omega), t7, t18, t17, t19]; rfl
            · rw [if_neg e]; exact hf.out j (by omega)
          case measure => simp [intOf]; omega
        · obtain rfl : p = 48 := by omega
          rw [show ((48 : Nat) : Int) + 16 = (64 : Int) from rfl]
          have hg64 := Lib.hid (fun j (hj : j < 64) => hf.out j (by omega))
          clear hf hlt hp
          clear hx hr3 hr10 hwa
          go_wp2_with (first
            | (with_reducible refine wpList_load_row rfl 58 _ rfl w.heap.size rfl 58 _ (0, 0) _ hinv.h.heap Tryd.underlying58 rfl (by rw [rowOf_size]; exact infoQ34) ?_)
            | (with_reducible refine wpList_store_row rfl 58 _ _ rfl wr.heap.size _ rfl rfl 58 _ (heap_alloc_new wr _) (by rw [rowOf_size]; exact infoQ34) (by simp [rowOf_size]) (rowOf_one _ _) ?_; generalize hW3 : World.setRow (World.alloc wr _) _ _ = W3; have hinv3 := hinv.toV hg64.out hW3; clear hW3))
          clear hinv hg64
          generalize wr.heap.size = Bv at hinv3 ⊢
          obtain ⟨m, hm⟩ : ∃ m, W (w16 s) = m := ⟨_, rfl⟩
          rw [hm] at hinv3
          have HM := Lib.hid hm
          clear hm
          go_loopw [11] (fun iv wr => ∃ k : Nat, k ≤ 64 ∧ iv = .int .i64 k ∧ Inv w wr f m B Bv k) (fun iv _ => 64 - (intOf iv).toNat)
          case atStart => exact ⟨0, by omega, rfl, hinv3⟩
          case round =>
            clear hinv3
            obtain ⟨k, hk, rfl, hinv⟩ := hrel
            by_cases hlt : k < 64
            · obtain ⟨G, hG⟩ : ∃ G, st f m k = G := ⟨_, rfl⟩
              have HG := Lib.hid hG
              have hv := hinv.v
              rw [hG] at hv
              clear hG
              obtain ⟨c0, _⟩ := hv.at 0 (by omega)
              obtain ⟨c4, _⟩ := hv.at 4 (by omega)
              go_wp2_with fail
              go_quiet (fail)
              generalize hwq : wr.drewN _ = w2
              have hinv2 : Inv w w2 f m B Bv k := by rw [← hwq]; exact hinv.drewN _
              have hv2 : Row w2 Bv 8 58 G := by rw [← hwq]; exact hv
              clear hwq c0 c4 hinv hv
              obtain ⟨c5, _⟩ := hv2.at 5 (by omega)
              obtain ⟨c6, _⟩ := hv2.at 6 (by omega)
              obtain ⟨c7, _⟩ := hv2.at 7 (by omega)
              obtain ⟨cw, _⟩ := hinv2.ws.at k hlt
              have ck := (HK.out.below hinv2.below HK.out.lt) k hlt
              have hk0 : (0 : Int) ≤ (k : Int) := by omega
              have hk64 : (k : Int) < 64 := by omega
              have hx := fxor
              have ha := fand
              have hn := fnot
              have hd := fadd
              have hd3 := fadd3
              have hd4 := fadd4
              have hd13 := fadd13
              have hd5 := fadd5
              have hn2 : ∀ a : UInt32, bits .xor .u32 (if IntKind.u32.signed = true then -1 else IntKind.u32.max) (nt a) = nt (~~~a) := fnot
              go_wp2_with fail
              go_quiet ((go_at_call 46; exact quiet_left (tq _ _ _ (by decide))))
              simp only [hd]
              generalize hX : G 7 + (rl (G 4) (tOf 6) ^^^ rl (G 4) (tOf 11) ^^^ rl (G 4) (tOf 25)) + (G 4 &&& G 5 ^^^ ~~~G 4 &&& G 6) + kt k + m k = X
              have HX := Lib.hid hX
              generalize hwq : w2.drewN _ = w3
              have hinv3 : Inv w w3 f m B Bv k := by rw [← hwq]; exact hinv2.drewN _
              have hv3 : Row w3 Bv 8 58 G := by rw [← hwq]; exact hv2
              clear hX hwq c5 c6 c7 cw ck hinv2 hv2 hn hn2 hk0 hk64
              obtain ⟨c1, _⟩ := hv3.at 1 (by omega)
              obtain ⟨c2, _⟩ := hv3.at 2 (by omega)
              go_wp2_with fail
              go_quiet ((go_at_call 46; exact quiet_left (tq _ _ _ (by decide))))
              simp only [hd]
              generalize hY : (rl (G 0) (tOf 2) ^^^ rl (G 0) (tOf 13) ^^^ rl (G 0) (tOf 22)) + (G 0 &&& G 1 ^^^ G 0 &&& G 2 ^^^ G 1 &&& G 2) = Y
              have HY := Lib.hid hY
              generalize hwq : w3.drewN _ = w4
              have hinv4 : Inv w w4 f m B Bv k := by rw [← hwq]; exact hinv3.drewN _
              have hv4 : Row w4 Bv 8 58 G := by rw [← hwq]; exact hv3
              clear hY hwq c1 c2 hinv3 hv3
              obtain ⟨c0, _⟩ := hv4.at 0 (by omega)
              obtain ⟨c1, _⟩ := hv4.at 1 (by omega)
              obtain ⟨c2, _⟩ := hv4.at 2 (by omega)
              obtain ⟨c3, _⟩ := hv4.at 3 (by omega)
              obtain ⟨c4, _⟩ := hv4.at 4 (by omega)
              obtain ⟨c5, _⟩ := hv4.at 5 (by omega)
              obtain ⟨c6, _⟩ := hv4.at 6 (by omega)
              have e8 : (#[.int .u32 (nt (X + Y)), .int .u32 (nt (G 0)), .int .u32 (nt (G 1)), .int .u32 (nt (G 2)), .int .u32 (nt (G 3 + X)), .int .u32 (nt (G 4)), .int .u32 (nt (G 5)), .int .u32 (nt (G 6))] : Array Value) = rowOf (rndf (st f m k) (kt k + m k)) 8 := by
                rw [HG.out, ← HX.out, ← HY.out, t6, t11, t25, t2, t13, t22, UInt32.add_assoc _ (kt k) (m k)]; rfl
              obtain ⟨cs, hcs⟩ : ∃ cs, rowOf (rndf (st f m k) (kt k + m k)) 8 = cs := ⟨_, rfl⟩
              rw [hcs] at e8
              have HCS := Lib.hid hcs
              have hsz8 : cs.size = 8 := by rw [← hcs, rowOf_size]
              have hone : cs.all (·.oneCell') = true := by rw [← hcs]; exact rowOf_one _ _
              have hst : (storeCells ⟨Bv, 0, none⟩ cs.toList).run Tryd.prog w4 = .ok () (w4.setRow Bv cs) := by
                have := run_storeCells_from (P := Tryd.prog) Bv 58 cs.toList 0 _ w4 hinv4.v.heap (by rw [rowOf_size]; simp [hsz8]) (fun v hv => (Array.all_eq_true_iff_forall_mem.1 hone) v (by simpa using hv))
                simpa using this
              clear hcs hx ha hd3 hd4 hd13 hd5 hone
              go_wp2
              go_roundw
              case rel => exact ⟨k + 1, by omega, by go_num, hinv4.next' HCS.out.symm⟩
              case measure => simp [intOf]; omega
            · obtain rfl : k = 64 := by omega
              rw [show ((64 : Nat) : Int) = (64 : Int) from rfl]
              have hinv2 : Inv2 w wr f (st f m 64) Bv 0 f := ⟨hinv.h, hinv.res, hinv.v, hinv.below, by have := hinv.lt1; have := hinv.lt2; omega, fun j => by rw [if_neg (by omega)]⟩
              clear hinv
              have hd := fadd
              have hwa := fwadd
              obtain ⟨g, hg⟩ : ∃ g, g = st f m 64 := ⟨_, rfl⟩
              rw [← hg] at hinv2
              have HG := Lib.hid hg
              clear hg
              go_wp2
              go_loopw [16] (fun iv wr => ∃ (k : Nat) (f' : Nat → UInt32), k ≤ 8 ∧ iv = .int .i64 k ∧ Inv2 w wr f g Bv k f') (fun iv _ => 8 - (intOf iv).toNat)
              case atStart => exact ⟨0, f, by omega, rfl, hinv2⟩
              case round =>
                clear hinv2
                obtain ⟨k, f', hk8, rfl, hinv⟩ := hrel
                by_cases hlt8 : k < 8
                · obtain ⟨ch, hfz⟩ := hinv.h.at k hlt8
                  obtain ⟨cv, _⟩ := hinv.v.at k hlt8
                  have hk0 : (0 : Int) ≤ (k : Int) := by omega
                  have hk64 : (k : Int) < 8 := by omega
                  go_wp2_with fail
                  go_still_tail 9, (by kernel_rfl)
                  change wpList _ _ _ _ _ wr.drew
                  clear cv
                  go_wp2
                  go_roundw
                  case rel => exact ⟨k + 1, _, by omega, by go_num, hinv.next⟩
                  case measure => simp [intOf]; omega
                · obtain rfl : k = 8 := by omega
                  rw [show ((8 : Nat) : Int) = (8 : Int) from rfl]
                  go_wp2_with (first
                    | (with_reducible refine wpList_load_row rfl 58 _ rfl w.heap.size rfl 58 _ (0, 0) _ hinv.h.heap Tryd.underlying58 rfl (by rw [rowOf_size]; exact infoQ34) ?_)
                    | (with_reducible refine wpList_store_row rfl 58 _ _ rfl (w.heap.size + 1) _ rfl rfl 58 _ hinv.res.heap (by rw [rowOf_size]; exact infoQ34) (by rw [rowOf_size, rowOf_size]) (rowOf_one _ _) ?_))
                  refine bodyPost_ret (v := .agg (rowOf f' 8)) (results_cell_row rfl _ _ (w.heap.size + 1) 58 _ (0, 0) _ rfl (setRow_heap _ _ _ _ _ _ hinv.res.heap) Tryd.underlying58 rfl (by rw [rowOf_size]; exact infoQ34)) rfl ⟨?_, below_setRow hinv.below (by omega)⟩
                  rw [rowOf_congr (g := mixf f s) (fun j hj => by rw [hinv.all j, if_pos hj, HG.out, ← HM.out]; rfl)]
end Go.Proofs.YtgmgbdihonindaaDoor.Sha
namespace Go.Proofs.YtgmgbdihonindaaDoor.Sha
open Go.RowKit
set_option linter.unusedSimpArgs false

theorem step_lit (f : Nat → UInt32) (s : ByteArray) (w : World) (hs : s.size = 64) (hk : KT 0 w) :
    Calls Tryd.prog 27 #[.agg #[.int .u32 (nt (f 0)), .int .u32 (nt (f 1)), .int .u32 (nt (f 2)), .int .u32 (nt (f 3)), .int .u32 (nt (f 4)), .int .u32 (nt (f 5)), .int .u32 (nt (f 6)), .int .u32 (nt (f 7))], .string s] w
      fun e w' => e = .returned (.agg (rowOf (mixf f s) 8)) ∧ Below w.heap.size w w' := step_any f s w hs hk
theorem four_string (W : World) (x : UInt32) :
    (convert 61 9 (.slice (some ⟨W.heap.size, 0, none⟩) 4 4)).run Tryd.prog (W.alloc (.cells #[.int .u8 (IntKind.u8.wrap (nt x / 16777216)), .int .u8 (IntKind.u8.wrap (nt x / 65536)), .int .u8 (IntKind.u8.wrap (nt x / 256)), .int .u8 (IntKind.u8.wrap (nt x))] 5)).drew = .ok (.string ⟨(by4 x).toArray⟩) (W.alloc (.cells #[.int .u8 (IntKind.u8.wrap (nt x / 16777216)), .int .u8 (IntKind.u8.wrap (nt x / 65536)), .int .u8 (IntKind.u8.wrap (nt x / 256)), .int .u8 (IntKind.u8.wrap (nt x))] 5)).drew := by
  rw [IntKind.wrap_u8, IntKind.wrap_u8, IntKind.wrap_u8, IntKind.wrap_u8, fb3, fb2, fb1, fb0]
  exact Buf.buf_string (Buf.buf_drew (Buf.buf_lit (base := 0) W (by4 x) (Nat.zero_le _) (by unfold maxLen; simp [by4])))

theorem four_plain (W : World) (x : UInt32) :
    (convert 61 9 (.slice (some ⟨W.heap.size, 0, none⟩) 4 4)).run Tryd.prog (W.alloc (.cells #[.int .u8 (IntKind.u8.wrap (nt x / 16777216)), .int .u8 (IntKind.u8.wrap (nt x / 65536)), .int .u8 (IntKind.u8.wrap (nt x / 256)), .int .u8 (IntKind.u8.wrap (nt x))] 5)) = .ok (.string ⟨(by4 x).toArray⟩) (W.alloc (.cells #[.int .u8 (IntKind.u8.wrap (nt x / 16777216)), .int .u8 (IntKind.u8.wrap (nt x / 65536)), .int .u8 (IntKind.u8.wrap (nt x / 256)), .int .u8 (IntKind.u8.wrap (nt x))] 5)) := by
  rw [IntKind.wrap_u8, IntKind.wrap_u8, IntKind.wrap_u8, IntKind.wrap_u8, fb3, fb2, fb1, fb0]
  exact Buf.buf_string (Buf.buf_lit (base := 0) W (by4 x) (Nat.zero_le _) (by unfold maxLen; simp [by4]))

set_option maxRecDepth 1000000 in
set_option maxHeartbeats 800000 in
theorem refsum_any (s : ByteArray) (w : World) (hs : s.size ≤ 250000) (hk : KT 0 w) :
    Calls Tryd.prog 13 #[.string s] w fun e w' => e = .returned (.string ⟨(sha s).toArray⟩) ∧ Below w.heap.size w w' := by
  have HK := Lib.hid hk
  clear hk
  go_enter Tryd.func13, Tryd.ntmps13
  go_wp2_with fail
  generalize hW : World.alloc w _ = W0
  have R0 : Row W0 w.heap.size 8 58 h0 ∧ Below w.heap.size w W0 := by
    rw [← hW]
    exact ⟨Row.lit w 58 8 _ h0 (by kernel_rfl), (Below.refl _ _).alloc (Nat.le_refl _) _⟩
  clear hW
  obtain ⟨hrow, hbel⟩ := R0
  refine (padded_any s _ hs).mono ?_
  rintro e w1 ⟨b, rfl, hbl, hb1⟩
  have hrow1 := hrow.below hb1 hrow.lt
  have hbel1 := hbel.trans (hb1.mono hbel.size)
  have hmod := msg_mod s
  have hml := msg_length s
  have hpad := pad_le s.size
  have hbs : b.size = (msg s).length := by rw [Lib.size_eq, hbl]
  have hble : b.size ≤ 300000 := by omega
  have HBL := Lib.hid hbl
  have HBS := Lib.hid hbs
  have HMOD := Lib.hid hmod
  clear hbl hbs hmod hml hpad hrow hbel hb1
  go_wp2
  go_loopw [4] (fun av wr => ∃ a j : Nat, Hid (a = 64 * j) ∧ a ≤ b.size ∧ av = .int .i64 a ∧ Row wr w.heap.size 8 58 (runN (msg s) j) ∧ Below w.heap.size w wr) (fun av _ => b.size - (intOf av).toNat)
  case atStart => exact ⟨0, 0, rfl, Nat.zero_le _, rfl, hrow1, hbel1⟩
  case round =>
    clear hrow1 hbel1
    obtain ⟨a, j, ha, hle, rfl, hrow, hbel⟩ := hrel
    by_cases hlt : a < b.size
    · have hlt64 : a + 64 ≤ b.size := by have := HMOD.out; have := HBS.out; have := ha.out; omega
      obtain ⟨c0, _⟩ := hrow.at 0 (by omega)
      obtain ⟨c1, _⟩ := hrow.at 1 (by omega)
      obtain ⟨c2, _⟩ := hrow.at 2 (by omega)
      obtain ⟨c3, _⟩ := hrow.at 3 (by omega)
      obtain ⟨c4, _⟩ := hrow.at 4 (by omega)
      obtain ⟨c5, _⟩ := hrow.at 5 (by omega)
      obtain ⟨c6, _⟩ := hrow.at 6 (by omega)
      obtain ⟨c7, _⟩ := hrow.at 7 (by omega)
      have hx0 : (0 : Int) ≤ (a : Int) := by omega
      have hx1 : (0 : Int) ≤ (a : Int) + 64 := by omega
      have hx2 : (a : Int) ≤ (a : Int) + 64 := by omega
      have hx3 : (a : Int) + 64 ≤ (b.size : Int) := by omega
      have hx4 : ((a : Int) + 64).toNat = a + 64 := by omega
      have hx5 : IntKind.i64.wrap ((a : Int) + 64) = (a : Int) + 64 := IntWalk.i64_in _ (by omega)
      go_wp2_with fail
      go_still_tail 6, (by kernel_rfl)
      change wpList _ _ _ _ _ wr.drew
      clear c0 c1 c2 c3 c4 c5 c6 c7 hx1 hx2 hx4 hx5
      go_wp2_with fail
      have hxe : (b.extract a (a + 64)).size = 64 := by rw [ByteArray.size_extract]; omega
      refine (step_lit (runN (msg s) j) (b.extract a (a + 64)) _ hxe (HK.out.below hbel.drew HK.out.lt)).mono ?_
      rintro e' w5 ⟨rfl, hb4⟩
      have hb5 : Below wr.heap.size wr w5 := (Below.refl _ wr).drew.trans hb4
      have hrow4 := hrow.below hb5 hrow.lt
      have hbel4 := hbel.trans (hb5.mono hbel.size)
      have hstep : mixf (runN (msg s) j) (b.extract a (a + 64)) = runN (msg s) (j + 1) := by
        rw [ha.out, blk_back s b 0 j (by rw [HBL.out]; rfl), Nat.zero_add]; rfl
      rw [hstep]
      clear hstep hxe
      go_wp2_with (with_reducible refine wpList_store_row rfl 58 _ _ rfl w.heap.size _ rfl rfl 58 _ hrow4.heap (by rw [rowOf_size]; exact infoQ34) (by rw [rowOf_size, rowOf_size]) (rowOf_one _ _) ?_)
      go_roundw
      case rel => exact ⟨a + 64, j + 1, by have := ha.out; show a + 64 = 64 * (j + 1); omega, by omega, by go_num, hrow4.setRow rfl, below_setRow hbel4 (Nat.le_refl _)⟩
      case measure => simp [intOf]; omega
    · have hkj : j = (msg s).length / 64 := by have := HBS.out; have := ha.out; have := HMOD.out; omega
      rw [hkj] at hrow
      have HKJ := Lib.hid hkj
      clear hkj
      obtain ⟨f, hf⟩ : ∃ f, runN (msg s) ((msg s).length / 64) = f := ⟨_, rfl⟩
      rw [hf] at hrow
      have HF := Lib.hid hf
      clear hf
      go_wp2
      go_loopw [5, 6] (fun ov iv wr => ∃ (k : Nat) (l : List UInt8), k ≤ 8 ∧ iv = .int .i64 k ∧ ov = .string ⟨l.toArray⟩ ∧ Hid (l = spellN f k) ∧ l.length ≤ 32 ∧ Row wr w.heap.size 8 58 f ∧ Below w.heap.size w wr) (fun _ iv _ => 8 - (intOf iv).toNat)
      case atStart => exact ⟨0, [], by omega, rfl, rfl, rfl, by simp, hrow, hbel⟩
      case round =>
        clear hrow hbel
        obtain ⟨k, l, hk, rfl, rfl, hl, hll, hrow, hbel⟩ := hrel
        by_cases hlt : k < 8
        · obtain ⟨hc, _⟩ := hrow.at k hlt
          have hk0 : (0 : Int) ≤ (k : Int) := by omega
          have hk8 : (k : Int) < 8 := by omega
          have hs4 := four_string wr (f k)
          have hs5 := four_plain wr (f k)
          have hs6 : (convert 61 9 (.slice (some ⟨wr.heap.size, 0, none⟩) 4 4)).run Tryd.prog (wr.drew.alloc (.cells #[.int .u8 (IntKind.u8.wrap (nt (f k) / 16777216)), .int .u8 (IntKind.u8.wrap (nt (f k) / 65536)), .int .u8 (IntKind.u8.wrap (nt (f k) / 256)), .int .u8 (IntKind.u8.wrap (nt (f k)))] 5)) = _ := four_plain wr.drew (f k)
          have hcon := fun W => run_string_add_sum (P := Tryd.prog) W ⟨l.toArray⟩ ⟨(by4 (f k)).toArray⟩ (by show l.length + 4 ≤ _; omega)
          have hl4 : (by4 (f k)).length = 4 := rfl
          go_wp2_with fail
          refine wp_region_held_drew (S := fun w' => w'.cell? ⟨w.heap.size, k, none⟩ = some (.int .u32 (nt (f k)))) (by kernel_rfl) ?_ (fun hHeld => ?_)
          · go_simp
          refine wpAnyH_take (i := 0) (v := ?_) rfl (by kernel_rfl) (by kernel_rfl) (by kernel_rfl) (fun _ _ _ h => h) (Or.inl ⟨by rfl, by (intro w hSw; (try dsimp only at hSw); go_simp; try with_reducible rfl)⟩) (by assumption) ?_
          try simp only [Act.put, List.setIfInBounds_toArray, List.set_cons_zero, List.set_cons_succ]
          refine wpAnyH_take (i := 1) (v := ?_) rfl (by kernel_rfl) (by kernel_rfl) (by kernel_rfl) (fun _ _ _ h => h) (Or.inl ⟨by rfl, by (intro w hSw; (try dsimp only at hSw); go_simp; try with_reducible rfl)⟩) (by assumption) ?_
          try simp only [Act.put, List.setIfInBounds_toArray, List.set_cons_zero, List.set_cons_succ]
          refine wpAnyH_take (i := 2) (v := ?_) rfl (by kernel_rfl) (by kernel_rfl) (by kernel_rfl) (fun _ _ _ h => h) (Or.inl ⟨by rfl, by (intro w hSw; (try dsimp only at hSw); go_simp; try with_reducible rfl)⟩) (by assumption) ?_
          try simp only [Act.put, List.setIfInBounds_toArray, List.set_cons_zero, List.set_cons_succ]
          refine wpAnyH_take (i := 3) (v := ?_) rfl (by kernel_rfl) (by kernel_rfl) (by kernel_rfl) (fun _ _ _ h => h) (Or.inl ⟨by rfl, by (intro w hSw; (try dsimp only at hSw); go_simp; try with_reducible rfl)⟩) (by assumption) ?_
          try simp only [Act.put, List.setIfInBounds_toArray, List.set_cons_zero, List.set_cons_succ]
          refine wpAnyH_take (i := 4) (v := ?_) rfl (by kernel_rfl) (by kernel_rfl) (by kernel_rfl) (fun _ _ _ h => h) (Or.inl ⟨by rfl, by (intro w hSw; (try dsimp only at hSw); go_simp; try with_reducible rfl)⟩) (by assumption) ?_
          try simp only [Act.put, List.setIfInBounds_toArray, List.set_cons_zero, List.set_cons_succ]
          refine wpAnyH_take (i := 5) (v := ?_) rfl (by kernel_rfl) (by kernel_rfl) (by kernel_rfl) (fun _ _ _ h => h) (Or.inl ⟨by rfl, by (intro w hSw; (try dsimp only at hSw); go_simp; try with_reducible rfl)⟩) (by assumption) ?_
          try simp only [Act.put, List.setIfInBounds_toArray, List.set_cons_zero, List.set_cons_succ]
          refine wpAnyH_take (i := 6) (v := ?_) rfl (by kernel_rfl) (by kernel_rfl) (by kernel_rfl) (fun _ _ _ h => h) (Or.inl ⟨by rfl, by (intro w hSw; (try dsimp only at hSw); go_simp; try with_reducible rfl)⟩) (by assumption) ?_
          try simp only [Act.put, List.setIfInBounds_toArray, List.set_cons_zero, List.set_cons_succ]
          refine wpAnyH_take (i := 7) (v := ?_) rfl (by kernel_rfl) (by kernel_rfl) (by kernel_rfl) (fun _ _ _ h => h) (Or.inl ⟨by rfl, by (intro w hSw; (try dsimp only at hSw); go_simp; try with_reducible rfl)⟩) (by assumption) ?_
          try simp only [Act.put, List.setIfInBounds_toArray, List.set_cons_zero, List.set_cons_succ]
          refine wpAnyH_take (i := 8) (v := ?_) rfl (by kernel_rfl) (by kernel_rfl) (by kernel_rfl) (fun _ _ _ h => h) (Or.inl ⟨by rfl, by (intro w hSw; (try dsimp only at hSw); go_simp; try with_reducible rfl)⟩) (by assumption) ?_
          try simp only [Act.put, List.setIfInBounds_toArray, List.set_cons_zero, List.set_cons_succ]
          refine wpAnyH_take (i := 9) (v := ?_) rfl (by kernel_rfl) (by kernel_rfl) (by kernel_rfl) (fun _ _ _ h => h) (Or.inl ⟨by rfl, by (intro w hSw; (try dsimp only at hSw); go_simp; try with_reducible rfl)⟩) (by assumption) ?_
          try simp only [Act.put, List.setIfInBounds_toArray, List.set_cons_zero, List.set_cons_succ]
          refine wpAnyH_take (i := 10) (v := ?_) rfl (by kernel_rfl) (by kernel_rfl) (by kernel_rfl) (fun _ _ _ h => h) (Or.inl ⟨by rfl, by (intro w hSw; (try dsimp only at hSw); go_simp; try with_reducible rfl)⟩) (by assumption) ?_
          try simp only [Act.put, List.setIfInBounds_toArray, List.set_cons_zero, List.set_cons_succ]
          refine wpAnyH_take (i := 11) (v := ?_) rfl (by kernel_rfl) (by kernel_rfl) (by kernel_rfl) (fun _ _ _ h => h) (Or.inl ⟨by rfl, by (intro w hSw; (try dsimp only at hSw); go_simp; try with_reducible rfl)⟩) (by assumption) ?_
          try simp only [Act.put, List.setIfInBounds_toArray, List.set_cons_zero, List.set_cons_succ]
          refine wpAnyH_take (i := 12) (v := ?_) rfl (by kernel_rfl) (by kernel_rfl) (by kernel_rfl) (fun _ _ _ h => h) (Or.inl ⟨by rfl, by (intro w hSw; (try dsimp only at hSw); go_simp; try with_reducible rfl)⟩) (by assumption) ?_
          try simp only [Act.put, List.setIfInBounds_toArray, List.set_cons_zero, List.set_cons_succ]
          refine wpAnyH_take (i := 13) (v := ?_) rfl (by kernel_rfl) (by kernel_rfl) (by kernel_rfl) (fun _ _ _ h => h) (Or.inl ⟨by rfl, by (intro w hSw; (try dsimp only at hSw); go_simp; try with_reducible rfl)⟩) (by assumption) ?_
          try simp only [Act.put, List.setIfInBounds_toArray, List.set_cons_zero, List.set_cons_succ]
          refine wpAnyH_take (i := 14) (v := ?_) rfl (by kernel_rfl) (by kernel_rfl) (by kernel_rfl) (fun _ _ _ h => h) (Or.inl ⟨by rfl, by (intro w hSw; (try dsimp only at hSw); go_simp; try with_reducible rfl)⟩) (by assumption) ?_
          try simp only [Act.put, List.setIfInBounds_toArray, List.set_cons_zero, List.set_cons_succ]
          refine wpAnyH_take (i := 15) (v := ?_) rfl (by kernel_rfl) (by kernel_rfl) (by kernel_rfl) (fun _ _ _ h => h) (Or.inl ⟨by rfl, by (intro w hSw; (try dsimp only at hSw); go_simp; try with_reducible rfl)⟩) (by assumption) ?_
          try simp only [Act.put, List.setIfInBounds_toArray, List.set_cons_zero, List.set_cons_succ]
          refine wpAnyH_take (i := 16) (v := ?_) rfl (by kernel_rfl) (by kernel_rfl) (by kernel_rfl) (fun _ _ _ h => h) (Or.inl ⟨by rfl, by (intro w hSw; (try dsimp only at hSw); go_simp; try with_reducible rfl)⟩) (by assumption) ?_
          try simp only [Act.put, List.setIfInBounds_toArray, List.set_cons_zero, List.set_cons_succ]
          refine wpAnyH_take (i := 17) (v := ?_) rfl (by kernel_rfl) (by kernel_rfl) (by kernel_rfl) (fun _ _ _ h => h) (Or.inl ⟨by rfl, by (intro w hSw; (try dsimp only at hSw); go_simp; try with_reducible rfl)⟩) (by assumption) ?_
          try simp only [Act.put, List.setIfInBounds_toArray, List.set_cons_zero, List.set_cons_succ]
          refine wpAnyH_take (i := 18) (v := ?_) rfl (by kernel_rfl) (by kernel_rfl) (by kernel_rfl) (fun _ _ _ h => h) (Or.inl ⟨by rfl, by (intro w hSw; (try dsimp only at hSw); go_simp; try with_reducible rfl)⟩) (by assumption) ?_
          try simp only [Act.put, List.setIfInBounds_toArray, List.set_cons_zero, List.set_cons_succ]
          refine wpAnyH_take (i := 19) (v := ?_) rfl (by kernel_rfl) (by kernel_rfl) (by kernel_rfl) (fun _ _ _ h => h) (Or.inl ⟨by rfl, by (intro w hSw; (try dsimp only at hSw); go_simp; try with_reducible rfl)⟩) (by assumption) ?_
          try simp only [Act.put, List.setIfInBounds_toArray, List.set_cons_zero, List.set_cons_succ]
          clear hcon
          refine wpAnyH_ready (rs := [20]) (by kernel_rfl) (by simp) ?_
          refine AllReadyH.cons rfl (fun K hK => ?_) AllReadyH.nil
          go_simp
          refine hK.out _ _ ?_ (fun hHeld => ?_)
          · go_keep
          clear hK K
          try simp only [Act.put, List.setIfInBounds_toArray, List.set_cons_zero, List.set_cons_succ]
          refine wpAnyH_ready (rs := [21]) (by kernel_rfl) (by simp) ?_
          refine AllReadyH.cons rfl (fun K hK => ?_) AllReadyH.nil
          go_simp
          refine hK.out _ _ ?_ (fun hHeld => ?_)
          · go_keep
          clear hK K
          try simp only [Act.put, List.setIfInBounds_toArray, List.set_cons_zero, List.set_cons_succ]
          have hcon := fun W => run_string_add_sum (P := Tryd.prog) W ⟨l.toArray⟩ ⟨(by4 (f k)).toArray⟩ (by show l.length + 4 ≤ _; omega)
          refine wpAnyH_take (i := 22) (v := ?_) rfl (by kernel_rfl) (by kernel_rfl) (by kernel_rfl) (fun _ _ _ h => h) (Or.inl ⟨by rfl, by (intro w hSw; (try dsimp only at hSw); go_simp; try with_reducible rfl)⟩) (by assumption) ?_
          try simp only [Act.put, List.setIfInBounds_toArray, List.set_cons_zero, List.set_cons_succ]
          refine wpAnyH_take (i := 23) (v := ?_) rfl (by kernel_rfl) (by kernel_rfl) (by kernel_rfl) (fun _ _ _ h => h) (Or.inl ⟨by rfl, by (intro w hSw; (try dsimp only at hSw); go_simp; try with_reducible rfl)⟩) (by assumption) ?_
          try simp only [Act.put, List.setIfInBounds_toArray, List.set_cons_zero, List.set_cons_succ]
          refine wpAnyH_done (by kernel_rfl) ?_ _
          all_goals
            go_wp2
            go_roundw
            case rel =>
              refine ⟨k + 1, l ++ by4 (f k), by omega, by go_num, congrArg Value.string (Buf.str_app _ _), ?_, ?_, ?_, ?_⟩
              · show _ = spellN f k ++ _; rw [hl.out]
              · have h1 := congrArg List.length hl.out; rw [spellN_length] at h1; rw [List.length_append, hl4]; omega
              · exact hrow.below (b := wr.heap.size) (((Below.refl _ wr).alloc (Nat.le_refl _) _).drew) hrow.lt
              · exact hbel.trans ((((Below.refl _ wr).alloc (Nat.le_refl _) _).drew).mono hbel.size)
            case measure => simp [intOf]; omega
        · obtain rfl : k = 8 := by omega
          have e1 : (⟨l.toArray⟩ : ByteArray) = ⟨(sha s).toArray⟩ := by rw [hl.out, ← HF.out]; rfl
          go_wp2
          go_ret
          exact ⟨congrArg (fun b => Ending.returned (Value.string b)) e1, hbel⟩
end Go.Proofs.YtgmgbdihonindaaDoor.Sha
