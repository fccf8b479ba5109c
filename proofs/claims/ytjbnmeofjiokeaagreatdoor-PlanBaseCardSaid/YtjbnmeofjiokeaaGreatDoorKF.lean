/- Contracts for SHA-256: turning words. -/
import Derived.Test.YtjbnmeofjiokeaaGreatDoorRows
import Derived.WalkKit
import Derived.ProofKit
import Derived.Lib.Hide
import Derived.IntWalk
import Derived.Laws.BitsAllLaws
import Derived.Deep.QuietTactic
import Derived.BigQuiet
import Derived.WalkSmall
import Derived.StillTailTactics
import Derived.Lib.Strings
import Derived.Deep.RegionHeld3
import Derived.Lib.SlBytesRow
import Derived.Lib.BufferRead
import Derived.Deep.AppendLies
import Derived.Deep.RegionWith
set_option linter.all false
namespace Go.Proofs.YtjbnmeofjiokeaaGreatDoor.Sha
open Go.RowKit

/-- x, turned left by s. -/
def rl (x : UInt32) (s : Nat) : UInt32 := UInt32.ofNat (((x.toNat * 2 ^ s) % 4294967296) ||| (x.toNat / 2 ^ (32 - s)))
theorem rl_toNat (x : UInt32) (s : Nat) : (rl x s).toNat = ((x.toNat * 2 ^ s) % 4294967296) ||| (x.toNat / 2 ^ (32 - s)) := by
  unfold rl
  have h1 : (x.toNat * 2 ^ s) % 4294967296 < 2 ^ 32 := Nat.mod_lt _ (by decide)
  have h2 : x.toNat / 2 ^ (32 - s) < 2 ^ 32 := Nat.lt_of_le_of_lt (Nat.div_le_self _ _) x.toNat_lt
  rw [UInt32.toNat_ofNat', Nat.mod_eq_of_lt (Nat.or_lt_two_pow h1 h2)]
theorem or_rl (x : UInt32) (s : Nat) : bits .or .u32 ((x.toNat : Int) * 2 ^ s % 4294967296) ((x.toNat : Int) / 2 ^ (32 - s)) = ((rl x s).toNat : Int) := by
  have h1 : (x.toNat * 2 ^ s) % 4294967296 < 4294967296 := Nat.mod_lt _ (by decide)
  have h2 : x.toNat / 2 ^ (32 - s) < 4294967296 := Nat.lt_of_le_of_lt (Nat.div_le_self _ _) x.toNat_lt
  have := u32_or_nat _ _ h1 h2
  rw [rl_toNat x s, ← this]
  congr 1

theorem rot_any (x : UInt32) (k : Int) (s : Nat) (w : World) (hk : bits .and .u64 (IntKind.u64.wrap k) 31 = (s : Int)) (hs : s ≤ 31) :
    Calls Tryz.prog 129 #[.int .u32 x.toNat, .int .i64 k] w fun e w' => e = .returned (.int .u32 (rl x s).toNat) ∧ w = w' := by
  go_enter Tryz.func129, Tryz.ntmps129
  go_wp2
  go_ret
  exact ⟨by show Ending.returned (.int .u32 (bits .or .u32 ((x.toNat : Int) * 2 ^ s % 4294967296) ((x.toNat : Int) / 2 ^ (32 - s)))) = _; rw [or_rl x s], rfl⟩

/-- A word as a number: closed to the walk. -/
def nt (x : UInt32) : Int := (x.toNat : Int)
theorem fxor (a b : UInt32) : bits .xor .u32 (nt a) (nt b) = nt (a ^^^ b) := by
  unfold nt; rw [u32_xor_nat _ _ a.toNat_lt b.toNat_lt, UInt32.toNat_xor]
theorem fand (a b : UInt32) : bits .and .u32 (nt a) (nt b) = nt (a &&& b) := by
  unfold nt; rw [u32_and_nat _ _ a.toNat_lt b.toNat_lt, UInt32.toNat_and]
theorem fadd (a b : UInt32) : (nt a + nt b) % 4294967296 = nt (a + b) := by
  unfold nt; rw [UInt32.toNat_add]; omega
theorem fadd3 (a b c : UInt32) : (nt a + nt b + nt c) % 4294967296 = nt (a + b + c) := by
  rw [← fadd, ← fadd, Int.emod_add_emod]
theorem fadd4 (a b c d : UInt32) : (nt a + nt b + nt c + nt d) % 4294967296 = nt (a + b + c + d) := by
  rw [← fadd, ← fadd3, Int.emod_add_emod]
theorem fadd13 (d a b c : UInt32) : (nt d + (nt a + nt b + nt c)) % 4294967296 = nt (d + (a + b + c)) := by
  rw [← fadd, ← fadd3, Int.add_emod_emod]
theorem fnot (a : UInt32) : bits .xor .u32 IntKind.u32.max (nt a) = nt (~~~ a) := by
  have h : IntKind.u32.max = nt 4294967295 := by decide
  have e : (4294967295 : UInt32) ^^^ a = ~~~ a := UInt32.toBitVec_inj.1 (by rw [UInt32.toBitVec_xor, UInt32.toBitVec_not]; exact BitVec.allOnes_xor)
  rw [h, fxor, e]

/-- Eight words. -/
structure H8 where
  a : UInt32
  b : UInt32
  c : UInt32
  d : UInt32
  e : UInt32
  f : UInt32
  g : UInt32
  h : UInt32
def h8 (s : H8) : Array Value := #[.int .u32 (nt s.a), .int .u32 (nt s.b), .int .u32 (nt s.c), .int .u32 (nt s.d), .int .u32 (nt s.e), .int .u32 (nt s.f), .int .u32 (nt s.g), .int .u32 (nt s.h)]
def sOf (k : Int) : Nat := (bits .and .u64 (IntKind.u64.wrap k) 31).toNat
theorem sOf_spec (k : Int) : bits .and .u64 (IntKind.u64.wrap k) 31 = (sOf k : Int) ∧ sOf k ≤ 31 := by
  have h1 : 0 ≤ IntKind.u64.wrap k := wrap_u64_nonneg k
  have h2 : IntKind.u64.wrap k < 18446744073709551616 := by rw [IntKind.wrap_u64]; omega
  have h := u64_and (IntKind.u64.wrap k) 31 h1 h2 (by omega) (by omega)
  have hle := Nat.and_le_right (n := (IntKind.u64.wrap k).toNat) (m := (31 : Int).toNat)
  unfold sOf
  rw [h]
  rw [Int.toNat_natCast]
  exact ⟨rfl, hle⟩
theorem rot_open (x : UInt32) (k : Int) (w : World) :
    Calls Tryz.prog 129 #[.int .u32 (nt x), .int .i64 k] w fun e w' => e = .returned (.int .u32 (nt (rl x (sOf k)))) ∧ w = w' :=
  rot_any x k (sOf k) w (sOf_spec k).1 (sOf_spec k).2
theorem k6 : sOf (-6) = 26 := by decide +kernel
theorem k2 : sOf (-2) = 30 := by decide +kernel
theorem k7 : sOf (-7) = 25 := by decide +kernel
theorem quiet_add_left {P : Program} {f : FuncId} {args : Array Value} {w : World} {a n : Nat} {v : Value}
    (h : Calls P f args (w.drewN (a + n)) fun e w' => e = .returned v ∧ w.drewN (a + n) = w') :
    Calls P f args (w.drewN (a + n)) fun e w'' => e = .returned v ∧ ∃ m, w'' = w.drewN (a + m) :=
  h.mono fun _ _ ⟨he, hm⟩ => ⟨he, n, hm.symm⟩
def rx0 (h e f g word : UInt32) : UInt32 := h + (rl e (sOf (-6)) ^^^ rl e (sOf (-11)) ^^^ rl e (sOf (-25))) + ((e &&& f) ^^^ (~~~ e &&& g)) + word
def ry0 (a b c : UInt32) : UInt32 := (rl a (sOf (-2)) ^^^ rl a (sOf (-13)) ^^^ rl a (sOf (-22))) + ((a &&& b) ^^^ (a &&& c) ^^^ (b &&& c))

set_option maxHeartbeats 1600000 in
theorem turn_raw (a b c d e f g h8' word : UInt32) (w : World) :
    Calls Tryz.prog 109 #[.agg #[.int .u32 (nt a), .int .u32 (nt b), .int .u32 (nt c), .int .u32 (nt d), .int .u32 (nt e), .int .u32 (nt f), .int .u32 (nt g), .int .u32 (nt h8')], .int .u32 (nt word)] w
      fun e' w' => e' = .returned (.agg #[.int .u32 (nt (rx0 h8' e f g word + ry0 a b c)), .int .u32 (nt a), .int .u32 (nt b), .int .u32 (nt c), .int .u32 (nt (d + rx0 h8' e f g word)), .int .u32 (nt e), .int .u32 (nt f), .int .u32 (nt g)]) ∧ Below w.heap.size w w' := by
  have hx := fxor
  have ha := fand
  have hd := fadd
  have hd3 := fadd3
  have hd4 := fadd4
  have hd13 := fadd13
  have hn := fnot
  go_enter Tryz.func109, Tryz.ntmps109
  go_wp2_with fail
  go_quiet (fail)
  go_wp2_with fail
  go_quiet ((go_at_call 129; exact quiet_add_left (rot_open _ _ _)))
  go_wp2_with (go_at_call 129; refine (rot_open _ _ _).mono ?_; rintro e' w' ⟨rfl, rfl⟩)
  exact bodyPost_ret (v := .agg #[.int .u32 (nt (rx0 h8' e f g word + ry0 a b c)), .int .u32 (nt a), .int .u32 (nt b), .int .u32 (nt c), .int .u32 (nt (d + rx0 h8' e f g word)), .int .u32 (nt e), .int .u32 (nt f), .int .u32 (nt g)]) (by simp [results, Tryz.results109, go_sem, rx0, ry0]) rfl ⟨rfl, by
    refine Below.setCell ?_ (by simp) _
    refine Below.setCell ?_ (by simp) _
    refine Below.setCell ?_ (by simp) _
    refine Below.setCell ?_ (by simp) _
    refine Below.setCell ?_ (by simp) _
    refine Below.setCell ?_ (by simp) _
    refine Below.setCell ?_ (by simp) _
    refine Below.setCell ?_ (by simp) _
    exact below_drewN (((Below.refl _ _).alloc (Nat.le_refl _) _).alloc (by simp) _) _⟩
end Go.Proofs.YtjbnmeofjiokeaaGreatDoor.Sha
namespace Go.Proofs.YtjbnmeofjiokeaaGreatDoor.Sha
def sm0 (x : UInt32) : UInt32 := rl x (sOf (-7)) ^^^ rl x (sOf (-18)) ^^^ UInt32.ofNat (x.toNat / 8)
def sm1 (x : UInt32) : UInt32 := rl x (sOf (-17)) ^^^ rl x (sOf (-19)) ^^^ UInt32.ofNat (x.toNat / 1024)
/-- The next word of a block's 64: m are the first sixteen. -/
def nxt (m : Nat → UInt32) (l : List UInt32) (n : Nat) : UInt32 :=
  if n < 16 then m n else l.getD (n - 16) 0 + sm0 (l.getD (n - 15) 0) + l.getD (n - 7) 0 + sm1 (l.getD (n - 2) 0)
def wl (m : Nat → UInt32) : Nat → List UInt32
  | 0 => []
  | n + 1 => wl m n ++ [nxt m (wl m n) n]
def W (m : Nat → UInt32) (j : Nat) : UInt32 := nxt m (wl m j) j
theorem wl_length (m : Nat → UInt32) (n : Nat) : (wl m n).length = n := by
  induction n with
  | zero => rfl
  | succ n ih => simp [wl, ih]
theorem W_get (m : Nat → UInt32) (n j : Nat) (h : j < n) : (wl m n).getD j 0 = W m j := by
  induction n with
  | zero => omega
  | succ n ih =>
    rw [wl, List.getD_eq_getElem?_getD]
    by_cases hj : j < n
    · rw [List.getElem?_append_left (by rw [wl_length]; exact hj), ← List.getD_eq_getElem?_getD, ih hj]
    · obtain rfl : j = n := by omega
      rw [List.getElem?_append_right (by rw [wl_length]; omega), wl_length]
      simp [W]
theorem W_lo (m : Nat → UInt32) (j : Nat) (h : j < 16) : W m j = m j := by
  unfold W nxt; rw [if_pos h]
theorem W_hi (m : Nat → UInt32) (p : Nat) : W m (p + 16) = W m p + sm0 (W m (p + 1)) + W m (p + 9) + sm1 (W m (p + 14)) := by
  have e : W m (p + 16) = nxt m (wl m (p + 16)) (p + 16) := rfl
  rw [e, nxt, if_neg (by omega), W_get m (p + 16) _ (by omega), W_get m (p + 16) _ (by omega), W_get m (p + 16) _ (by omega), W_get m (p + 16) _ (by omega)]
  rw [show p + 16 - 16 = p by omega, show p + 16 - 15 = p + 1 by omega, show p + 16 - 7 = p + 9 by omega, show p + 16 - 2 = p + 14 by omega]
end Go.Proofs.YtjbnmeofjiokeaaGreatDoor.Sha
namespace Go.Proofs.YtjbnmeofjiokeaaGreatDoor.Sha
open Go.RowKit

/-- The words f(0), f(1), .. up to n, as cells. -/
def rowOf (f : Nat → UInt32) (n : Nat) : Array Value := ((List.range n).map fun j => Value.int .u32 (nt (f j))).toArray
theorem rowOf_size (f : Nat → UInt32) (n : Nat) : (rowOf f n).size = n := by simp [rowOf]
theorem rowOf_get (f : Nat → UInt32) (n j : Nat) (h : j < n) : (rowOf f n)[j]? = some (.int .u32 (nt (f j))) := by
  unfold rowOf
  rw [List.getElem?_toArray, List.getElem?_map, List.getElem?_range h]; rfl
theorem rowOf_one (f : Nat → UInt32) (n : Nat) : (rowOf f n).all (·.oneCell') = true := by
  rw [Array.all_eq_true_iff_forall_mem]
  intro x hx
  unfold rowOf at hx
  rw [List.mem_toArray, List.mem_map] at hx
  obtain ⟨_, _, rfl⟩ := hx
  rfl
theorem rowOf_congr {f g : Nat → UInt32} {n : Nat} (h : ∀ j, j < n → f j = g j) : rowOf f n = rowOf g n := by
  unfold rowOf
  congr 1
  exact List.map_congr_left fun j hj => by rw [h j (List.mem_range.1 hj)]
def up (f : Nat → UInt32) (i : Nat) (x : UInt32) : Nat → UInt32 := fun j => if j = i then x else f j
theorem rowOf_set (f : Nat → UInt32) (n i : Nat) (x : UInt32) : (rowOf f n).setIfInBounds i (.int .u32 (nt x)) = rowOf (up f i x) n := by
  apply Array.ext
  · simp [rowOf_size]
  · intro j h1 h2
    rw [rowOf_size] at h2
    have e2 := rowOf_get (up f i x) n j h2
    have e1 : ((rowOf f n).setIfInBounds i (.int .u32 (nt x)))[j]? = some (.int .u32 (nt (up f i x j))) := by
      rw [Array.getElem?_setIfInBounds, rowOf_size, rowOf_get f n j h2]
      unfold up
      by_cases hij : i = j
      · subst hij; simp [h2]
      · rw [if_neg hij, if_neg (fun e => hij e.symm)]
    rw [← e1] at e2
    rw [Array.getElem?_eq_getElem h1, Array.getElem?_eq_getElem (by rw [rowOf_size]; exact h2)] at e2
    exact (Option.some.inj e2).symm
/-- Block B holds the n words f(0), f(1), .. -/
def Row (w : World) (B n T : Nat) (f : Nat → UInt32) : Prop := w.heap[B]? = some (.cells (rowOf f n) T (0, 0))
theorem Row.at {w : World} {B n T : Nat} {f : Nat → UInt32} (h : Row w B n T f) (j : Nat) (hj : j < n) : w.cell? ⟨B, j, none⟩ = some (.int .u32 (nt (f j))) ∧ w.frozen? ⟨B, j, none⟩ = false :=
  ⟨by rw [cell_of_row w B j _ T (0, 0) h, rowOf_get f n j hj], frozen_of_row w B j _ T h⟩
theorem Row.set {w : World} {B n T : Nat} {f : Nat → UInt32} (h : Row w B n T f) (i : Nat) (x : UInt32) : Row (w.setCell ⟨B, i, none⟩ (.int .u32 (nt x))) B n T (up f i x) := by
  unfold Row
  rw [heap_setCell_same w B i _ T _ h, rowOf_set]
theorem Row.other {w : World} {B n T : Nat} {f : Nat → UInt32} (h : Row w B n T f) (p : Addr) (v : Value) (hp : p.block ≠ B) : Row (w.setCell p v) B n T f := by
  unfold Row
  rw [heap_setCell_other w p B v (fun e => hp e.symm)]; exact h
theorem Row.below {w w' : World} {b B n T : Nat} {f : Nat → UInt32} (h : Row w B n T f) (hb : Below b w w') (hB : B < b) : Row w' B n T f := by
  unfold Row
  rw [hb.block B hB]; exact h
theorem Row.drew {w : World} {B n T : Nat} {f : Nat → UInt32} (h : Row w B n T f) : Row w.drew B n T f := h
theorem Row.lt {w : World} {B n T : Nat} {f : Nat → UInt32} (h : Row w B n T f) : B < w.heap.size := (Array.getElem?_eq_some_iff.1 h).1
/-- The word of four bytes. -/
def word4 (a b c d : UInt8) : UInt32 := UInt32.ofNat (a.toNat * 16777216 + b.toNat * 65536 + c.toNat * 256 + d.toNat)
theorem word4_or (a b c d : UInt8) : bits .or .u32 (bits .or .u32 (bits .or .u32 ((a.toNat : Int) * 16777216 % 4294967296) ((b.toNat : Int) * 65536 % 4294967296)) ((c.toNat : Int) * 256 % 4294967296)) (d.toNat : Int) = nt (word4 a b c d) := by
  have ha := a.toNat_lt
  have hb := b.toNat_lt
  have hc := c.toNat_lt
  have hd := d.toNat_lt
  rw [bits_join .u32 32 (by decide) (fun n h0 h1 => IntWalk.u32_in n (by omega)) 24 ((a.toNat : Int) * 16777216 % 4294967296) ((b.toNat : Int) * 65536 % 4294967296) (by omega) (by omega) (by omega) (by omega) (by omega) (by omega)]
  rw [bits_join .u32 32 (by decide) (fun n h0 h1 => IntWalk.u32_in n (by omega)) 16 _ ((c.toNat : Int) * 256 % 4294967296) (by omega) (by omega) (by omega) (by omega) (by omega) (by omega)]
  rw [bits_join .u32 32 (by decide) (fun n h0 h1 => IntWalk.u32_in n (by omega)) 8 _ (d.toNat : Int) (by omega) (by omega) (by omega) (by omega) (by omega) (by omega)]
  unfold nt word4
  rw [UInt32.toNat_ofNat']
  omega
theorem word4_wrap (a b c d : UInt8) : bits .or .u32 (bits .or .u32 (bits .or .u32 (IntKind.u32.wrap (IntKind.u32.wrap (a.toNat : Int) * 16777216)) (IntKind.u32.wrap (IntKind.u32.wrap (b.toNat : Int) * 65536))) (IntKind.u32.wrap (IntKind.u32.wrap (c.toNat : Int) * 256))) (IntKind.u32.wrap (d.toNat : Int)) = nt (word4 a b c d) := by
  have h : ∀ x : UInt8, IntKind.u32.wrap (x.toNat : Int) = (x.toNat : Int) := fun x => IntWalk.u32_in _ (by have := x.toNat_lt; omega)
  rw [h, h, h, h, IntKind.wrap_u32', IntKind.wrap_u32', IntKind.wrap_u32']
  exact word4_or a b c d
theorem Row.lit (w : World) (T n : Nat) (c : Array Value) (f : Nat → UInt32) (hc : c = rowOf f n) : Row (w.alloc (.cells c T)) w.heap.size n T f := by
  unfold Row
  rw [heap_alloc_new w _, hc]

theorem fwadd (a b : UInt32) : IntKind.u32.wrap (nt a + nt b) = nt (a + b) := by rw [IntKind.wrap_u32', fadd]
theorem fshr3 (x : UInt32) : nt x / 8 = nt (UInt32.ofNat (x.toNat / 8)) := by
  have := x.toNat_lt
  unfold nt; rw [UInt32.toNat_ofNat']; omega
theorem fshr10 (x : UInt32) : nt x / 1024 = nt (UInt32.ofNat (x.toNat / 1024)) := by
  have := x.toNat_lt
  unfold nt; rw [UInt32.toNat_ofNat']; omega

/-- The first sixteen words of a block. -/
def w16 (s : ByteArray) (i : Nat) : UInt32 := word4 (s.data.toList.getD (4 * i) 0) (s.data.toList.getD (4 * i + 1) 0) (s.data.toList.getD (4 * i + 2) 0) (s.data.toList.getD (4 * i + 3) 0)
theorem w16_at (s : ByteArray) (i : Nat) (h : 4 * i + 3 < s.size) : w16 s i = word4 s[4 * i] s[4 * i + 1] s[4 * i + 2] s[4 * i + 3] := by
  have e : ∀ j, (h : j < s.size) → s.data.toList.getD j 0 = s[j] := by
    intro j hj
    rw [List.getD_eq_getElem?_getD, List.getElem?_eq_getElem (by rw [← Lib.size_eq]; exact hj)]; rfl
  unfold w16
  rw [e _ (by omega), e _ (by omega), e _ (by omega), e _ (by omega)]

theorem two_rows (w : World) (c d : Array Value) (hc : c = rowOf (fun _ => 0) 64) (hd : d = rowOf (fun _ => 0) 64) :
    Row ((w.alloc (.cells c 135)).alloc (.cells d 135)) w.heap.size 64 135 (fun _ => 0) ∧ Row ((w.alloc (.cells c 135)).alloc (.cells d 135)) (w.heap.size + 1) 64 135 (fun _ => 0) ∧ Below w.heap.size w ((w.alloc (.cells c 135)).alloc (.cells d 135)) := by
  have h1 := Row.lit w 135 64 c _ hc
  have h2 := Row.lit (w.alloc (.cells c 135)) 135 64 d _ hd
  rw [show (w.alloc (.cells c 135)).heap.size = w.heap.size + 1 by simp] at h2
  refine ⟨h1.below (b := (w.alloc (.cells c 135)).heap.size) ((Below.refl _ _).alloc (Nat.le_refl _) _) (by simp), h2, ((Below.refl _ _).alloc (Nat.le_refl _) _).alloc (by simp) _⟩
theorem below_setRow {b : Nat} {a w : World} {g : Nat} {cs : Array Value} (h : Below b a w) (hg : b ≤ g) : Below b a (w.setRow g cs) :=
  h.trans ⟨rfl, rfl, rfl, by simp, fun k hk => setRow_other w g k cs (by omega)⟩
theorem infoQ42 : (Tryz.prog.info? 135).map (·.size) = some 64 := by kernel_rfl

set_option maxHeartbeats 600000 in
set_option maxRecDepth 1000000 in
theorem widen_any (s : ByteArray) (w : World) (hs : s.size = 64) :
    Calls Tryz.prog 108 #[.string s] w fun e w' => e = .returned (.agg (rowOf (W (w16 s)) 64)) ∧ Below w.heap.size w w' := by
  have HS := Lib.hid hs
  clear hs
  go_enter Tryz.func108, Tryz.ntmps108
  go_wp2_with fail
  generalize hW : (World.alloc (World.alloc w _) _) = W0
  have R0 : Row W0 w.heap.size 64 135 (fun _ => 0) ∧ Row W0 (w.heap.size + 1) 64 135 (fun _ => 0) ∧ Below w.heap.size w W0 := by
    rw [← hW]
    exact two_rows w _ _ rfl rfl
  clear hW
  obtain ⟨hres, hrow, hbel⟩ := R0
  obtain ⟨B, hB⟩ : ∃ B, B = w.heap.size + 1 := ⟨_, rfl⟩
  rw [← hB] at hrow ⊢
  have HB := Lib.hid hB
  have hBs : w.heap.size ≤ B := by omega
  clear hB
  go_loopw [4] (fun iv wr => ∃ (k : Nat) (f : Nat → UInt32), k ≤ 16 ∧ iv = .int .i64 k ∧ Row wr B 64 135 f ∧ Hid (∀ j, j < k → f j = w16 s j) ∧ Row wr w.heap.size 64 135 (fun _ => 0) ∧ Below w.heap.size w wr) (fun iv _ => 16 - (intOf iv).toNat)
  case atStart => exact ⟨0, fun _ => 0, by omega, rfl, hrow, fun j hj => absurd hj (by omega), hres, hbel⟩
  case round =>
    obtain ⟨k, f, hk, rfl, hrow1, hf, hres1, hbel1⟩ := hrel
    clear hrow hres hbel
    have HR := Lib.hid hrow1
    have HR0 := Lib.hid hres1
    clear hrow1 hres1
    by_cases hlt : k < 16
    · obtain ⟨hc, hfz⟩ := HR.out.at k (by omega)
      have hx0 : ((4 : Int) * (k : Int)).toNat = 4 * k := by omega
      have hx1 : ((4 : Int) * (k : Int) + 1).toNat = 4 * k + 1 := by omega
      have hx2 : ((4 : Int) * (k : Int) + 2).toNat = 4 * k + 2 := by omega
      have hx3 : ((4 : Int) * (k : Int) + 3).toNat = 4 * k + 3 := by omega
      have hy0 : (0 : Int) ≤ (4 : Int) * (k : Int) := by omega
      have hz1 : (0 : Int) ≤ (4 : Int) * (k : Int) + 1 := by omega
      have hz2 : (0 : Int) ≤ (4 : Int) * (k : Int) + 2 := by omega
      have hz3 : (0 : Int) ≤ (4 : Int) * (k : Int) + 3 := by omega
      have hy00 : (4 : Int) * (k : Int) < (s.size : Int) := by have := HS.out; omega
      have hy1 : (4 : Int) * (k : Int) + 1 < (s.size : Int) := by have := HS.out; omega
      have hy2 : (4 : Int) * (k : Int) + 2 < (s.size : Int) := by have := HS.out; omega
      have hy3 : (4 : Int) * (k : Int) + 3 < (s.size : Int) := by have := HS.out; omega
      have hw0 : IntKind.i64.wrap ((4 : Int) * (k : Int)) = 4 * k := IntWalk.i64_in _ (by omega)
      have hw1 : IntKind.i64.wrap ((4 : Int) * (k : Int) + 1) = 4 * k + 1 := IntWalk.i64_in _ (by omega)
      have hw2 : IntKind.i64.wrap ((4 : Int) * (k : Int) + 2) = 4 * k + 2 := IntWalk.i64_in _ (by omega)
      have hw3 : IntKind.i64.wrap ((4 : Int) * (k : Int) + 3) = 4 * k + 3 := IntWalk.i64_in _ (by omega)
      have hk0 : (0 : Int) ≤ (k : Int) := by omega
      have hk64 : (k : Int) < 64 := by omega
      go_wp2_with fail
      go_still_tail 31, (by kernel_rfl)
      change wpList _ _ _ _ _ wr.drew
      have hword := (word4_wrap (s[4 * k]'(by omega)) (s[4 * k + 1]'(by omega)) (s[4 * k + 2]'(by omega)) (s[4 * k + 3]'(by omega))).trans (congrArg nt (w16_at s k (by omega)).symm)
      rw [hword]
      generalize (s[4 * k]'(by omega)).toNat = b0
      generalize (s[4 * k + 1]'(by omega)).toNat = b1
      generalize (s[4 * k + 2]'(by omega)).toNat = b2
      generalize (s[4 * k + 3]'(by omega)).toNat = b3
      clear hword hw0 hw1 hw2 hw3 hx0 hx1 hx2 hx3 hy0 hz1 hz2 hz3 hy00 hy1 hy2 hy3
      go_wp2
      go_roundw
      case rel =>
        exact ⟨k + 1, _, by omega, by go_num, (HR.out.set k (w16 s k)).drew, fun j hj => by (unfold up; by_cases e : j = k; (rw [if_pos e, e]); (rw [if_neg e]; exact hf.out j (by omega))), (HR0.out.other _ _ (by have := HB.out; simp; omega)).drew, (hbel1.setCell hBs _).drew⟩
      case measure => simp [intOf]; omega
    · obtain rfl : k = 16 := by omega
      rw [show ((16 : Nat) : Int) = (16 : Int) from rfl]
      have hx := fxor
      have hd := fadd
      have hd3 := fadd3
      have hd4 := fadd4
      have hr3 := fshr3
      have hr10 := fshr10
      go_wp2
      go_loopw [5] (fun iv wr => ∃ (p : Nat) (f : Nat → UInt32), p ≤ 48 ∧ iv = .int .i64 ((p : Int) + 16) ∧ Row wr B 64 135 f ∧ Hid (∀ j, j < p + 16 → f j = W (w16 s) j) ∧ Row wr w.heap.size 64 135 (fun _ => 0) ∧ Below w.heap.size w wr) (fun iv _ => 64 - (intOf iv).toNat)
      case atStart => exact ⟨0, f, by omega, rfl, HR.out, fun j hj => by rw [W_lo _ _ (by omega)]; exact hf.out j (by omega), HR0.out, hbel1⟩
      case round =>
        clear hf HR HR0 hbel1
        obtain ⟨p, f, hp, rfl, hrow1, hf, hres1, hbel1⟩ := hrel
        have HR := Lib.hid hrow1
        have HR0 := Lib.hid hres1
        clear hrow1 hres1
        by_cases hlt : p < 48
        · obtain ⟨hc0, _⟩ := HR.out.at p (by omega)
          obtain ⟨hc1, _⟩ := HR.out.at (p + 1) (by omega)
          obtain ⟨hc9, _⟩ := HR.out.at (p + 9) (by omega)
          obtain ⟨hc14, _⟩ := HR.out.at (p + 14) (by omega)
          obtain ⟨hc16, hfz⟩ := HR.out.at (p + 16) (by omega)
          have hlt' : (p : Int) + 16 < 64 := by omega
          have hq15 : IntKind.i64.wrap ((p : Int) + 16 - 15) = (p : Int) + 1 := by rw [show (p : Int) + 16 - 15 = (p : Int) + 1 by omega]; exact IntWalk.i64_in _ (by omega)
          have hn15 : (0 : Int) ≤ (p : Int) + 1 := by omega
          have hl15 : (p : Int) + 1 < 64 := by omega
          have ht15 : ((p : Int) + 1).toNat = p + 1 := by omega
          have hq2 : IntKind.i64.wrap ((p : Int) + 16 - 2) = (p : Int) + 14 := by rw [show (p : Int) + 16 - 2 = (p : Int) + 14 by omega]; exact IntWalk.i64_in _ (by omega)
          have hn2 : (0 : Int) ≤ (p : Int) + 14 := by omega
          have hl2 : (p : Int) + 14 < 64 := by omega
          have ht2 : ((p : Int) + 14).toNat = p + 14 := by omega
          go_wp2_with fail
          go_quiet (fail)
          generalize hwq : wr.drewN _ = w2
          have hb2 : Below w.heap.size w w2 := by rw [← hwq]; exact below_drewN hbel1 _
          have hr2 : Hid (Row w2 B 64 135 f) := by rw [← hwq]; exact HR
          have hr02 : Hid (Row w2 w.heap.size 64 135 (fun _ => 0)) := by rw [← hwq]; exact HR0
          clear hwq hc0 hc1 hc9 hc14 hc16 hfz HR HR0 hbel1 hq15 hn15 hl15 ht15 hq2 hn2 hl2 ht2
          go_wp2_with (go_at_call 129; refine (rot_open _ _ _).mono ?_; rintro e' w' ⟨rfl, rfl⟩)
          obtain ⟨hc0, _⟩ := hr2.out.at p (by omega)
          obtain ⟨hc9, _⟩ := hr2.out.at (p + 9) (by omega)
          obtain ⟨hc16, hfz⟩ := hr2.out.at (p + 16) (by omega)
          have hq16 : IntKind.i64.wrap ((p : Int) + 16 - 16) = (p : Int) := by rw [show (p : Int) + 16 - 16 = (p : Int) by omega]; exact IntWalk.i64_in _ (by omega)
          have hn16 : (0 : Int) ≤ (p : Int) := by omega
          have hl16 : (p : Int) < 64 := by omega
          have hq7 : IntKind.i64.wrap ((p : Int) + 16 - 7) = (p : Int) + 9 := by rw [show (p : Int) + 16 - 7 = (p : Int) + 9 by omega]; exact IntWalk.i64_in _ (by omega)
          have hn7 : (0 : Int) ≤ (p : Int) + 9 := by omega
          have hl7 : (p : Int) + 9 < 64 := by omega
          have ht7 : ((p : Int) + 9).toNat = p + 9 := by omega
          have hq00 : IntKind.i64.wrap (p : Int) = (p : Int) := IntWalk.i64_in _ (by omega)
          have ht0 : ((p : Int) + 16).toNat = p + 16 := by omega
          have hn0 : (0 : Int) ≤ (p : Int) + 16 := by omega
          have hwa := fwadd
          go_still_tail 15, (by kernel_rfl)
          change wpList _ _ _ _ _ w2.drew
          clear hc0 hc9 hq16 hn16 hl16 hq7 hn7 hl7 ht7 hq00 ht0 hn0 hwa
          go_wp2
          go_roundw
          case rel =>
            refine ⟨p + 1, _, by omega, by go_num, (hr2.out.set (p + 16) _).drew, ?_, (hr02.out.other _ _ (by have := HB.out; simp; omega)).drew, (hb2.setCell hBs _).drew⟩
            intro j hj
            unfold up
            by_cases e : j = p + 16
            · rw [if_pos e, e, W_hi, hf.out p (by omega), hf.out (p + 1) (by omega), hf.out (p + 9) (by omega), hf.out (p + 14) (by omega)]; rfl
            · rw [if_neg e]; exact hf.out j (by omega)
          case measure => simp [intOf]; omega
        · obtain rfl : p = 48 := by omega
          rw [show ((48 : Nat) : Int) + 16 = (64 : Int) from rfl]
          have hrB := HR.out
          have hr0 := HR0.out
          unfold Row at hrB hr0
          have HrB := Lib.hid hrB
          have Hr0 := Lib.hid hr0
          clear hrB hr0
          go_wp2_with (first | (with_reducible refine wpList_load_row rfl 135 _ rfl B rfl 135 _ (0, 0) _ HrB.out Tryz.underlying135 rfl (by rw [rowOf_size]; exact infoQ42) ?_) | (with_reducible refine wpList_store_row rfl 135 _ _ rfl w.heap.size _ rfl rfl 135 _ Hr0.out (by rw [rowOf_size]; exact infoQ42) (by rw [rowOf_size, rowOf_size]) (rowOf_one _ _) ?_))
          refine bodyPost_ret (v := .agg (rowOf f 64)) (results_cell_row rfl _ _ w.heap.size 135 _ (0, 0) _ rfl (setRow_heap _ _ _ _ _ _ Hr0.out) Tryz.underlying135 rfl (by rw [rowOf_size]; exact infoQ42)) rfl ⟨?_, below_setRow hbel1 (Nat.le_refl _)⟩
          rw [rowOf_congr (g := W (w16 s)) (fun j hj => hf.out j (by omega))]
end Go.Proofs.YtjbnmeofjiokeaaGreatDoor.Sha
namespace Go.Proofs.YtjbnmeofjiokeaaGreatDoor.Sha
open Go.RowKit

/-- The 64 numbers of the standard. -/
def ktab : List UInt32 := [0x428a2f98, 0x71374491, 0xb5c0fbcf, 0xe9b5dba5, 0x3956c25b, 0x59f111f1, 0x923f82a4, 0xab1c5ed5, 0xd807aa98, 0x12835b01, 0x243185be, 0x550c7dc3, 0x72be5d74, 0x80deb1fe, 0x9bdc06a7, 0xc19bf174, 0xe49b69c1, 0xefbe4786, 0x0fc19dc6, 0x240ca1cc, 0x2de92c6f, 0x4a7484aa, 0x5cb0a9dc, 0x76f988da, 0x983e5152, 0xa831c66d, 0xb00327c8, 0xbf597fc7, 0xc6e00bf3, 0xd5a79147, 0x06ca6351, 0x14292967, 0x27b70a85, 0x2e1b2138, 0x4d2c6dfc, 0x53380d13, 0x650a7354, 0x766a0abb, 0x81c2c92e, 0x92722c85, 0xa2bfe8a1, 0xa81a664b, 0xc24b8b70, 0xc76c51a3, 0xd192e819, 0xd6990624, 0xf40e3585, 0x106aa070, 0x19a4c116, 0x1e376c08, 0x2748774c, 0x34b0bcb5, 0x391c0cb3, 0x4ed8aa4a, 0x5b9cca4f, 0x682e6ff3, 0x748f82ee, 0x78a5636f, 0x84c87814, 0x8cc70208, 0x90befffa, 0xa4506ceb, 0xbef9a3f7, 0xc67178f2]
def kt (j : Nat) : UInt32 := ktab.getD j 0
/-- The variable b0 holds the numbers. -/
def KT (b : Nat) (w : World) : Prop := ∀ j, j < 64 → w.cell? ⟨b, j, none⟩ = some (.int .u32 (nt (kt j)))
theorem KT.lt {b : Nat} {w : World} (h : KT b w) : b < w.heap.size := block_lt_of_cell (h 0 (by omega))
theorem KT.below {b c : Nat} {w w' : World} (h : KT b w) (hb : Below c w w') (hc : b < c) : KT b w' := fun j hj => by
  rw [hb.cell (p := ⟨b, j, none⟩) hc]; exact h j hj

/-- One of the 64 rounds. -/
def rndf (f : Nat → UInt32) (word : UInt32) : Nat → UInt32
  | 0 => rx0 (f 7) (f 4) (f 5) (f 6) word + ry0 (f 0) (f 1) (f 2)
  | 1 => f 0
  | 2 => f 1
  | 3 => f 2
  | 4 => f 3 + rx0 (f 7) (f 4) (f 5) (f 6) word
  | 5 => f 4
  | 6 => f 5
  | _ => f 6
def st (f m : Nat → UInt32) : Nat → (Nat → UInt32)
  | 0 => f
  | n + 1 => rndf (st f m n) (kt n + m n)
def mixf (f : Nat → UInt32) (s : ByteArray) : Nat → UInt32 := fun j => f j + st f (W (w16 s)) 64 j
theorem infoQ34 : (Tryz.prog.info? 125).map (·.size) = some 8 := by kernel_rfl

theorem Row.heap {w : World} {B n T : Nat} {f : Nat → UInt32} (h : Row w B n T f) : w.heap[B]? = some (.cells (rowOf f n) T (0, 0)) := h
theorem Row.setRow {w : World} {B n T n' : Nat} {f g : Nat → UInt32} (h : Row w B n T f) (hn : n = n') : Row (w.setRow B (rowOf g n')) B n T g := by
  subst hn
  exact setRow_heap w B _ _ T (0, 0) h
theorem Row.setRow_other {w : World} {B n T g : Nat} {f : Nat → UInt32} {cs : Array Value} (h : Row w B n T f) (hg : B ≠ g) : Row (w.setRow g cs) B n T f := by
  unfold Row
  rw [Go.setRow_other w g B cs hg]; exact h
theorem after_w {w W0 w1 W2 : World} {f g : Nat → UInt32} {z : Array Value} (hh : Row W0 w.heap.size 8 125 f) (hres : Row W0 (w.heap.size + 1) 8 125 (fun _ => 0)) (hbel : Below w.heap.size w W0) (hsz : W0.heap.size = w.heap.size + 2) (hb1 : Below W0.heap.size W0 w1)
    (hW : (w1.alloc (.cells z 135)).setRow w1.heap.size (rowOf g 64) = W2) :
    Row W2 w.heap.size 8 125 f ∧ Row W2 (w.heap.size + 1) 8 125 (fun _ => 0) ∧ Row W2 w1.heap.size 64 135 g ∧ Below w.heap.size w W2 ∧ W2.heap.size = w1.heap.size + 1 := by
  subst hW
  have h1 := hb1.size
  have ha : Below w1.heap.size w1 (w1.alloc (.cells z 135)) := (Below.refl _ _).alloc (Nat.le_refl _) _
  have hb : Below w1.heap.size w1 ((w1.alloc (.cells z 135)).setRow w1.heap.size (rowOf g 64)) := below_setRow ha (Nat.le_refl _)
  refine ⟨(hh.below hb1 (by omega)).below hb (by omega), (hres.below hb1 (by omega)).below hb (by omega), ?_, (hbel.trans (hb1.mono (by omega))).trans (hb.mono (by omega)), by simp⟩
  exact setRow_heap _ _ z _ 135 (0, 0) (heap_alloc_new w1 _)

theorem after_v {w W0 w1 W2 W3 : World} {f g h : Nat → UInt32} {z : Array Value} (hh : Row W2 w.heap.size 8 125 f) (hres : Row W2 (w.heap.size + 1) 8 125 (fun _ => 0)) (hw : Row W2 w1.heap.size 64 135 g) (hbel : Below w.heap.size w W2) (h1s : W0.heap.size ≤ w1.heap.size) (hsz : W0.heap.size = w.heap.size + 2) (hsz2 : W2.heap.size = w1.heap.size + 1)
    (hW : (W2.alloc (.cells z 125)).setRow W2.heap.size (rowOf h 8) = W3) :
    Row W3 w.heap.size 8 125 f ∧ Row W3 (w.heap.size + 1) 8 125 (fun _ => 0) ∧ Row W3 w1.heap.size 64 135 g ∧ Row W3 W2.heap.size 8 125 h ∧ Below w.heap.size w W3 ∧ W3.heap.size = W2.heap.size + 1 := by
  subst hW
  have ha : Below W2.heap.size W2 (W2.alloc (.cells z 125)) := (Below.refl _ _).alloc (Nat.le_refl _) _
  have hb : Below W2.heap.size W2 ((W2.alloc (.cells z 125)).setRow W2.heap.size (rowOf h 8)) := below_setRow ha (Nat.le_refl _)
  refine ⟨hh.below hb (by omega), hres.below hb (by omega), hw.below hb (by omega), ?_, hbel.trans (hb.mono (by omega)), by simp⟩
  exact setRow_heap _ _ z _ 125 (0, 0) (heap_alloc_new W2 _)

theorem turn_row (g : Nat → UInt32) (word : UInt32) (w : World) :
    Calls Tryz.prog 109 #[.agg #[.int .u32 (nt (g 0)), .int .u32 (nt (g 1)), .int .u32 (nt (g 2)), .int .u32 (nt (g 3)), .int .u32 (nt (g 4)), .int .u32 (nt (g 5)), .int .u32 (nt (g 6)), .int .u32 (nt (g 7))], .int .u32 (nt word)] w
      fun e' w' => e' = .returned (.agg (rowOf (rndf g word) 8)) ∧ Below w.heap.size w w' :=
  turn_raw (g 0) (g 1) (g 2) (g 3) (g 4) (g 5) (g 6) (g 7) word w
/-- What holds in each round: the words as they came, the block's, and those on their way. -/
structure Inv (w wr : World) (f m : Nat → UInt32) (Bw Bv k : Nat) : Prop where
  h : Row wr w.heap.size 8 125 f
  res : Row wr (w.heap.size + 1) 8 125 (fun _ => 0)
  ws : Row wr Bw 64 135 m
  v : Row wr Bv 8 125 (st f m k)
  below : Below w.heap.size w wr
  lt1 : w.heap.size + 2 ≤ Bw
  lt2 : Bw < Bv
theorem Inv.step {w wr w' : World} {f m : Nat → UInt32} {Bw Bv k : Nat} (h : Inv w wr f m Bw Bv k) (hb : Below wr.heap.size wr w') : Inv w w' f m Bw Bv k :=
  ⟨h.h.below hb h.h.lt, h.res.below hb h.res.lt, h.ws.below hb h.ws.lt, h.v.below hb h.v.lt, h.below.trans (hb.mono h.below.size), h.lt1, h.lt2⟩

theorem Inv.next {w wr : World} {f m : Nat → UInt32} {Bw Bv k : Nat} (h : Inv w wr f m Bw Bv k) : Inv w (wr.setRow Bv (rowOf (rndf (st f m k) (kt k + m k)) 8)) f m Bw Bv (k + 1) := by
  have h1 := h.lt1
  have h2 := h.lt2
  exact ⟨h.h.setRow_other (by omega), h.res.setRow_other (by omega), h.ws.setRow_other (by omega), h.v.setRow rfl, below_setRow h.below (by omega), h1, h2⟩
/-- What holds while the words are added. -/
structure Inv2 (w wr : World) (f g : Nat → UInt32) (Bv k : Nat) (f' : Nat → UInt32) : Prop where
  h : Row wr w.heap.size 8 125 f'
  res : Row wr (w.heap.size + 1) 8 125 (fun _ => 0)
  v : Row wr Bv 8 125 g
  below : Below w.heap.size w wr
  lt : w.heap.size + 1 < Bv
  all : ∀ j, f' j = if j < k then f j + g j else f j
theorem Inv2.next {w wr : World} {f g : Nat → UInt32} {Bv k : Nat} {f' : Nat → UInt32} (h : Inv2 w wr f g Bv k f') : Inv2 w ((wr.setCell ⟨w.heap.size, k, none⟩ (.int .u32 (nt (f' k + g k)))).drew) f g Bv (k + 1) (up f' k (f' k + g k)) := by
  have hl := h.lt
  refine ⟨(h.h.set k _).drew, (h.res.other _ _ (by simp)).drew, (h.v.other _ _ (by simp; omega)).drew, (h.below.setCell (Nat.le_refl _) _).drew, hl, ?_⟩
  intro j
  unfold up
  have hk := h.all k
  rw [if_neg (by omega)] at hk
  by_cases e : j = k
  · rw [if_pos e, e, if_pos (by omega), hk]
  · rw [if_neg e, h.all j]
    by_cases hj : j < k
    · rw [if_pos hj, if_pos (by omega)]
    · rw [if_neg hj, if_neg (by omega)]

set_option maxRecDepth 1000000 in
set_option maxHeartbeats 1600000 in
theorem mix_any (f : Nat → UInt32) (s : ByteArray) (w : World) (hs : s.size = 64) (hk : KT 0 w) :
    Calls Tryz.prog 91 #[.agg (rowOf f 8), .string s] w fun e w' => e = .returned (.agg (rowOf (mixf f s) 8)) ∧ Below w.heap.size w w' := by
  have HS := Lib.hid hs
  have HK := Lib.hid hk
  clear hs hk
  have h8 : rowOf f 8 = #[.int .u32 (nt (f 0)), .int .u32 (nt (f 1)), .int .u32 (nt (f 2)), .int .u32 (nt (f 3)), .int .u32 (nt (f 4)), .int .u32 (nt (f 5)), .int .u32 (nt (f 6)), .int .u32 (nt (f 7))] := rfl
  rw [h8]
  clear h8
  go_enter Tryz.func91, Tryz.ntmps91
  go_wp2_with fail
  generalize hW : (World.alloc (World.alloc w _) _) = W0
  have R0 : Row W0 w.heap.size 8 125 f ∧ Row W0 (w.heap.size + 1) 8 125 (fun _ => 0) ∧ Below w.heap.size w W0 ∧ W0.heap.size = w.heap.size + 2 := by
    rw [← hW]
    have h1 := Row.lit w 125 8 #[.int .u32 (nt (f 0)), .int .u32 (nt (f 1)), .int .u32 (nt (f 2)), .int .u32 (nt (f 3)), .int .u32 (nt (f 4)), .int .u32 (nt (f 5)), .int .u32 (nt (f 6)), .int .u32 (nt (f 7))] f rfl
    have h2 := Row.lit (w.alloc (.cells #[.int .u32 (nt (f 0)), .int .u32 (nt (f 1)), .int .u32 (nt (f 2)), .int .u32 (nt (f 3)), .int .u32 (nt (f 4)), .int .u32 (nt (f 5)), .int .u32 (nt (f 6)), .int .u32 (nt (f 7))] 125)) 125 8 _ (fun _ => 0) rfl
    refine ⟨h1.below (b := (w.alloc _).heap.size) ((Below.refl _ _).alloc (Nat.le_refl _) _) (by simp), ?_, ((Below.refl _ _).alloc (Nat.le_refl _) _).alloc (by simp) _, by simp⟩
    rw [show ∀ o, (w.alloc o).heap.size = w.heap.size + 1 from fun o => by simp] at h2
    exact h2
  clear hW
  obtain ⟨hh, hres, hbel, hsz⟩ := R0
  refine (widen_any s _ HS.out).mono ?_
  rintro e w1 ⟨rfl, hb1⟩
  have h1s := hb1.size
  go_wp2_with (first
    | (with_reducible refine wpList_store_row rfl 135 _ _ rfl w1.heap.size _ rfl rfl 135 _ (heap_alloc_new w1 _) (by rw [rowOf_size]; exact infoQ42) (by simp [rowOf_size]) (rowOf_one _ _) ?_; generalize hW2 : World.setRow (World.alloc w1 _) _ _ = W2; obtain ⟨hh2, hres2, hw2, hbel2, hsz2⟩ := after_w hh hres hbel hsz hb1 hW2; clear hW2; have Hsz2 := Lib.hid hsz2; clear hsz2)
    | (with_reducible refine wpList_load_row rfl 125 _ rfl w.heap.size rfl 125 _ (0, 0) _ hh2.heap Tryz.underlying125 rfl (by rw [rowOf_size]; exact infoQ34) ?_)
    | (with_reducible refine wpList_store_row rfl 125 _ _ rfl W2.heap.size _ rfl rfl 125 _ (heap_alloc_new W2 _) (by rw [rowOf_size]; exact infoQ34) (by simp [rowOf_size]) (rowOf_one _ _) ?_; generalize hW3 : World.setRow (World.alloc W2 _) _ _ = W3; obtain ⟨hh3, hres3, hw3, hv3, hbel3, hsz3⟩ := after_v hh2 hres2 hw2 hbel2 h1s hsz Hsz2.out hW3; clear hW3; have Hsz3 := Lib.hid hsz3; clear hsz3))
  have hinv : Inv w W3 f (W (w16 s)) w1.heap.size W2.heap.size 0 := ⟨hh3, hres3, hw3, hv3, hbel3, by omega, by have := Hsz2.out; omega⟩
  clear hh hbel hsz hb1 h1s hh2 hres2 hw2 hbel2 hh3 hres3 hw3 hv3 hbel3
  clear Hsz2 Hsz3
  generalize w1.heap.size = Bw at hinv ⊢
  generalize W2.heap.size = Bv at hinv ⊢
  go_loopw [7] (fun iv wr => ∃ k : Nat, k ≤ 64 ∧ iv = .int .i64 k ∧ Inv w wr f (W (w16 s)) Bw Bv k) (fun iv _ => 64 - (intOf iv).toNat)
  case atStart => exact ⟨0, by omega, rfl, hinv⟩
  case round =>
    clear hinv
    obtain ⟨k, hk, rfl, hinv⟩ := hrel
    by_cases hlt : k < 64
    · obtain ⟨c0, _⟩ := hinv.v.at 0 (by omega)
      obtain ⟨c1, _⟩ := hinv.v.at 1 (by omega)
      obtain ⟨c2, _⟩ := hinv.v.at 2 (by omega)
      obtain ⟨c3, _⟩ := hinv.v.at 3 (by omega)
      obtain ⟨c4, _⟩ := hinv.v.at 4 (by omega)
      obtain ⟨c5, _⟩ := hinv.v.at 5 (by omega)
      obtain ⟨c6, _⟩ := hinv.v.at 6 (by omega)
      obtain ⟨c7, _⟩ := hinv.v.at 7 (by omega)
      obtain ⟨cw, _⟩ := hinv.ws.at k hlt
      have ck := (HK.out.below hinv.below HK.out.lt) k hlt
      have hk0 : (0 : Int) ≤ (k : Int) := by omega
      have hk64 : (k : Int) < 64 := by omega
      have hwa := fwadd
      go_wp2_with fail
      go_still_tail 8, (by kernel_rfl)
      change wpList _ _ _ _ _ wr.drew
      clear c0 c1 c2 c3 c4 c5 c6 c7 cw ck hk0 hk64 hwa
      go_wp2_with fail
      refine (turn_row (st f (W (w16 s)) k) _ _).mono ?_
      rintro e' w4 ⟨rfl, hb4⟩
      have hinv4 := hinv.step (show Below wr.heap.size wr w4 from (Below.refl _ wr).drew.trans hb4)
      go_wp2_with (with_reducible refine wpList_store_row rfl 125 _ _ rfl Bv _ rfl rfl 125 _ hinv4.v.heap (by rw [rowOf_size]; exact infoQ34) (by rw [rowOf_size, rowOf_size]) (rowOf_one _ _) ?_)
      go_roundw
      case rel => exact ⟨k + 1, by omega, by go_num, hinv4.next⟩
      case measure => simp [intOf]; omega
    · obtain rfl : k = 64 := by omega
      rw [show ((64 : Nat) : Int) = (64 : Int) from rfl]
      have hinv2 : Inv2 w wr f (st f (W (w16 s)) 64) Bv 0 f := ⟨hinv.h, hinv.res, hinv.v, hinv.below, by have := hinv.lt1; have := hinv.lt2; omega, fun j => by rw [if_neg (by omega)]⟩
      clear hinv
      have hd := fadd
      have hwa := fwadd
      obtain ⟨g, hg⟩ : ∃ g, g = st f (W (w16 s)) 64 := ⟨_, rfl⟩
      rw [← hg] at hinv2
      have HG := Lib.hid hg
      clear hg
      go_wp2
      go_loopw [8] (fun iv wr => ∃ (k : Nat) (f' : Nat → UInt32), k ≤ 8 ∧ iv = .int .i64 k ∧ Inv2 w wr f g Bv k f') (fun iv _ => 8 - (intOf iv).toNat)
      case atStart => exact ⟨0, f, by omega, rfl, hinv2⟩
      case round =>
        clear hinv2
        obtain ⟨k, f', hk8, rfl, hinv⟩ := hrel
        by_cases hlt8 : k < 8
        · obtain ⟨ch, hfz⟩ := hinv.h.at k hlt8
          obtain ⟨cv, _⟩ := hinv.v.at k hlt8
          have hk0 : (0 : Int) ≤ (k : Int) := by omega
          have hk64 : (k : Int) < 8 := by omega
          go_wp2_with fail
          go_still_tail 8, (by kernel_rfl)
          change wpList _ _ _ _ _ wr.drew
          clear cv
          go_wp2
          go_roundw
          case rel => exact ⟨k + 1, _, by omega, by go_num, hinv.next⟩
          case measure => simp [intOf]; omega
        · obtain rfl : k = 8 := by omega
          rw [show ((8 : Nat) : Int) = (8 : Int) from rfl]
          go_wp2_with (first
            | (with_reducible refine wpList_load_row rfl 125 _ rfl w.heap.size rfl 125 _ (0, 0) _ hinv.h.heap Tryz.underlying125 rfl (by rw [rowOf_size]; exact infoQ34) ?_)
            | (with_reducible refine wpList_store_row rfl 125 _ _ rfl (w.heap.size + 1) _ rfl rfl 125 _ hinv.res.heap (by rw [rowOf_size]; exact infoQ34) (by rw [rowOf_size, rowOf_size]) (rowOf_one _ _) ?_))
          refine bodyPost_ret (v := .agg (rowOf f' 8)) (results_cell_row rfl _ _ (w.heap.size + 1) 125 _ (0, 0) _ rfl (setRow_heap _ _ _ _ _ _ hinv.res.heap) Tryz.underlying125 rfl (by rw [rowOf_size]; exact infoQ34)) rfl ⟨?_, below_setRow hinv.below (by omega)⟩
          rw [rowOf_congr (g := mixf f s) (fun j hj => by rw [hinv.all j, if_pos hj, HG.out]; rfl)]
end Go.Proofs.YtjbnmeofjiokeaaGreatDoor.Sha
namespace Go.Proofs.YtjbnmeofjiokeaaGreatDoor.Buf
open Go.RowKit

/-- Bytes as values. -/
def vals (l : List UInt8) : List Value := l.map fun x => .int .u8 (x.toNat : Int)
theorem vals_length (l : List UInt8) : (vals l).length = l.length := by simp [vals]
theorem vals_append (a b : List UInt8) : vals (a ++ b) = vals a ++ vals b := by simp [vals]
theorem vals_get (l : List UInt8) (i : Nat) (h : i < l.length) : (vals l)[i]? = some (.int .u8 ((l[i]).toNat : Int)) := by
  simp [vals, h]
/-- The slice v, made by the call (from block 'base' on), holds the bytes l. -/
def Buf (w : World) (base : Nat) (v : Value) (l : List UInt8) : Prop := w.ownsRow base 5 1 v l.length (vals l)

theorem info5 : (Tryz.prog.info? 5).map (fun i => (i.zero, i.size, i.bytes)) = some (some (.int .u8 0), 1, 1) := by kernel_rfl

theorem buf_cell {w : World} {base g n cap : Nat} {l : List UInt8} (h : Buf w base (.slice (some ⟨g, 0, none⟩) n cap) l) (hn : n = l.length) (i : Nat) (hi : i < l.length) :
    w.cell? ⟨g, i, none⟩ = some (.int .u8 ((l[i]).toNat : Int)) := by
  subst hn
  rw [World.ownsRow.cellAt h i (by omega), vals_get l i hi]
theorem buf_lit {base : Nat} (w : World) (l : List UInt8) (hb : base ≤ w.heap.size) (hm : l.length ≤ maxLen) :
    Buf (w.alloc (.cells (vals l).toArray 5)) base (.slice (some ⟨w.heap.size, 0, none⟩) l.length l.length) l := by
  have := World.ownsRow_lit (base := base) (e := 5) (size := 1) w (vals l).toArray l.length hb hm (by simp [vals_length])
  simpa [Buf] using this

/-- As a string. -/
theorem buf_string {w : World} {base : Nat} {v : Value} {l : List UInt8} (h : Buf w base v l) :
    (convert 138 9 v).run Tryz.prog w = .ok (.string ⟨l.toArray⟩) w := by
  have h0 := h
  rcases h.2 with ⟨rfl, hn⟩ | ⟨g, cap, cur, rfl, _⟩
  · have hl : l = [] := List.eq_nil_of_length_eq_zero hn
    subst hl
    exact Lib.run_convert_nil_bytes w 138 9 5 0 Tryz.underlying138 Tryz.underlying5 Tryz.underlying9
  · have hb : Lib.Bytes w g 0 ⟨l.toArray⟩ := by
      intro i hi
      have hi' : i < l.length := by simpa [ByteArray.size] using hi
      rw [Nat.zero_add, buf_cell h0 rfl i hi']
      rfl
    have := Lib.run_convert_whole (P := Tryz.prog) w 138 5 9 Tryz.underlying138 Tryz.underlying5 Tryz.underlying9 g 0 ⟨l.toArray⟩ hb cap
    simpa [ByteArray.size] using this

theorem buf_alloc {w : World} {base : Nat} {v : Value} {l : List UInt8} (h : Buf w base v l) (o : Obj) : Buf (w.alloc o) base v l := World.ownsRow.alloc h o
theorem buf_drew {w : World} {base : Nat} {v : Value} {l : List UInt8} (h : Buf w base v l) : Buf w.drew base v l := World.ownsRow.drew h
/-- The cells of a row of bytes that was just laid. -/
theorem lit_cells (w : World) (news : List UInt8) : ∀ j, (h : j < news.length) → (w.alloc (.cells (vals news).toArray 5)).cell? ((⟨w.heap.size, 0, none⟩ : Addr).add j) = some (.int .u8 ((news[j]).toNat : Int)) := by
  intro j h
  rw [show (⟨w.heap.size, 0, none⟩ : Addr).add j = ⟨w.heap.size, j, none⟩ by simp [Addr.add]; omega, World.cell?_alloc_at _ _ _ _ rfl, List.getElem?_toArray, vals_get news j h]
theorem one_cells (w : World) (n : Int) (x : UInt8) (hn : n = (x.toNat : Int)) : ∀ j, (h : j < [x].length) → (w.alloc (.cells #[.int .u8 n] 5)).cell? ((⟨w.heap.size, 0, none⟩ : Addr).add j) = some (.int .u8 (([x][j]).toNat : Int)) := by
  subst hn
  exact lit_cells w [x]
/-- 'append' to a row of bytes that the call has made: it may grow. -/
theorem wpList_append {w : World} {ops : Array Oper} {rest : List Oper} {o : Oper} {a : Act} {Q : Exit → Act → World → Prop} (hgd : o.guard = none) (s x : Operand)
    (ho : o.op = .call { callee := .builtin .append, args := #[s, x], argTypes := #[138, 138] })
    (base : Nat) (v : Value) (l : List UInt8) (hs : a.eval s = v) (hbuf : Buf w base v l)
    (ad : Addr) (m c : Nat) (news : List UInt8) (hx : a.eval x = .slice (some ad) m c) (hl : news.length = m) (hnews : ∀ j, (h : j < news.length) → w.cell? (ad.add j) = some (.int .u8 ((news[j]).toNat : Int)))
    (hbound : l.length + m ≤ 140737488355328) (hbase : base ≤ w.heap.size)
    (h : ∀ v' w', Buf w' base v' (l ++ news) → (∀ w0, Below base w0 w → Below base w0 w') → wpList Tryz.prog ops Q rest (a.put o.dst v') w') : wpList Tryz.prog ops Q (o :: rest) a w := by
  obtain ⟨i0, hi, hz0, hz1, hz2⟩ := info_parts info5
  subst hl
  refine wpList_append_own w hgd s x 138 ho base 5 i0 (.int .u8 0) 1 1 Tryz.underlying138 hi hz0 hz1 hz2 rfl (by decide) v l.length (vals l) hs hbuf ad news.length c (vals news) hx (by rw [vals_length, Nat.mul_one]) ?_ ?_ (by unfold maxLen; omega) (by omega) hbase ?_
  · intro j u hj
    have hlt : j < news.length := by
      have := (List.getElem?_eq_some_iff.1 hj).1
      rwa [vals_length] at this
    rw [vals_get news j hlt] at hj
    rw [hnews j hlt, ← hj]
  · intro u hu
    unfold vals at hu
    obtain ⟨x, _, rfl⟩ := List.mem_map.1 hu
    rfl
  · intro v' w' h1 h2 _
    refine h v' w' ?_ (fun w0 hb => hb.grown h2 hbase (fun k hk => (World.ownsRow.lt hbuf k hk).1))
    unfold Buf
    rw [List.length_append, vals_append]
    exact h1
theorem vals_one (news : List UInt8) : ∀ u ∈ vals news, u.oneCell' = true := by
  intro u hu
  unfold vals at hu
  obtain ⟨x, _, rfl⟩ := List.mem_map.1 hu
  rfl
theorem vals_at {w : World} {ad : Addr} {news : List UInt8} (hnews : ∀ j, (h : j < news.length) → w.cell? (ad.add j) = some (.int .u8 ((news[j]).toNat : Int))) : ∀ j u, (vals news)[j]? = some u → w.cell? (ad.add j) = some u := by
  intro j u hj
  have hlt : j < news.length := by
    have := (List.getElem?_eq_some_iff.1 hj).1
    rwa [vals_length] at this
  rw [vals_get news j hlt] at hj
  rw [hnews j hlt, ← hj]
/-- The same as one step of a region that draws its order. -/
theorem step_append {w : World} {ops : Array Oper} {o : Oper} {a : Act} {K : Act → World → Prop} {Q : Exit → Act → World → Prop} {E : Prop} (hgd : o.guard = none) (s x : Operand)
    (ho : o.op = .call { callee := .builtin .append, args := #[s, x], argTypes := #[138, 138] })
    (base : Nat) (v : Value) (l : List UInt8) (hs : a.eval s = v) (hbuf : Buf w base v l)
    (ad : Addr) (m c : Nat) (news : List UInt8) (hx : a.eval x = .slice (some ad) m c) (hl : news.length = m) (hnews : ∀ j, (h : j < news.length) → w.cell? (ad.add j) = some (.int .u8 ((news[j]).toNat : Int)))
    (hm : 0 < m) (hbound : l.length + m ≤ 140737488355328) (hbase : base ≤ w.heap.size)
    (h : ∀ g cap w', Buf w' base (.slice (some ⟨g, 0, none⟩) (l.length + m) cap) (l ++ news) → (∀ w0, Below base w0 w → Below base w0 w') → K (a.put o.dst (.slice (some ⟨g, 0, none⟩) (l.length + m) cap)) w') :
    if Region.wanted o (yielded ops a.tmps) = true then Oper.wp Tryz.prog o a w K Q else E := by
  obtain ⟨i0, hi, hz0, hz1, hz2⟩ := info_parts info5
  subst hl
  refine step_append_lies w hgd s x 138 ho base 5 i0 (.int .u8 0) 1 1 Tryz.underlying138 hi hz0 hz1 hz2 rfl (by decide) v l.length (vals l) hs hbuf ad news.length c (vals news) hx (by rw [vals_length, Nat.mul_one]) (vals_at hnews) (vals_one news) hm (by unfold maxLen; omega) (by omega) hbase w.heap.size rfl ?_
  intro g cap w' h1 h2 _ _
  refine h g cap w' ?_ (fun w0 hb => hb.grown h2 hbase (fun k hk => (World.ownsRow.lt hbuf k hk).1))
  unfold Buf
  rw [List.length_append, vals_append]
  exact h1
/-- 'append' of at least one byte: the slice is written out. -/
theorem wpList_append_at {w : World} {ops : Array Oper} {rest : List Oper} {o : Oper} {a : Act} {Q : Exit → Act → World → Prop} (hgd : o.guard = none) (s x : Operand)
    (ho : o.op = .call { callee := .builtin .append, args := #[s, x], argTypes := #[138, 138] })
    (base : Nat) (v : Value) (l : List UInt8) (hs : a.eval s = v) (hbuf : Buf w base v l)
    (ad : Addr) (m c : Nat) (news : List UInt8) (hx : a.eval x = .slice (some ad) m c) (hl : news.length = m) (hnews : ∀ j, (h : j < news.length) → w.cell? (ad.add j) = some (.int .u8 ((news[j]).toNat : Int)))
    (hm : 0 < m) (hbound : l.length + m ≤ 140737488355328) (hbase : base ≤ w.heap.size)
    (h : ∀ g cap w', Buf w' base (.slice (some ⟨g, 0, none⟩) (l.length + m) cap) (l ++ news) → (∀ w0, Below base w0 w → Below base w0 w') → wpList Tryz.prog ops Q rest (a.put o.dst (.slice (some ⟨g, 0, none⟩) (l.length + m) cap)) w') : wpList Tryz.prog ops Q (o :: rest) a w := by
  obtain ⟨i0, hi, hz0, hz1, hz2⟩ := info_parts info5
  subst hl
  refine wpList_append_lies w hgd s x 138 ho base 5 i0 (.int .u8 0) 1 1 Tryz.underlying138 hi hz0 hz1 hz2 rfl (by decide) v l.length (vals l) hs hbuf ad news.length c (vals news) hx (by rw [vals_length, Nat.mul_one]) (vals_at hnews) (vals_one news) hm (by unfold maxLen; omega) (by omega) hbase w.heap.size rfl ?_
  intro g cap w' h1 h2 _ _
  refine h g cap w' ?_ (fun w0 hb => hb.grown h2 hbase (fun k hk => (World.ownsRow.lt hbuf k hk).1))
  unfold Buf
  rw [List.length_append, vals_append]
  exact h1
end Go.Proofs.YtjbnmeofjiokeaaGreatDoor.Buf
namespace Go.Proofs.YtjbnmeofjiokeaaGreatDoor.Sha
open Go.RowKit

/-- A word's four bytes, the highest first. -/
def by4 (x : UInt32) : List UInt8 := [UInt8.ofNat (x.toNat / 16777216), UInt8.ofNat (x.toNat / 65536), UInt8.ofNat (x.toNat / 256), UInt8.ofNat x.toNat]
def spellN (f : Nat → UInt32) : Nat → List UInt8
  | 0 => []
  | n + 1 => spellN f n ++ by4 (f n)
theorem spellN_length (f : Nat → UInt32) (n : Nat) : (spellN f n).length = 4 * n := by
  induction n with
  | zero => rfl
  | succ n ih => rw [spellN, List.length_append, ih]; rfl
theorem fb3 (x : UInt32) : nt x / 16777216 % 256 = ((UInt8.ofNat (x.toNat / 16777216)).toNat : Int) := by unfold nt; rw [UInt8.toNat_ofNat']; omega
theorem fb2 (x : UInt32) : nt x / 65536 % 256 = ((UInt8.ofNat (x.toNat / 65536)).toNat : Int) := by unfold nt; rw [UInt8.toNat_ofNat']; omega
theorem fb1 (x : UInt32) : nt x / 256 % 256 = ((UInt8.ofNat (x.toNat / 256)).toNat : Int) := by unfold nt; rw [UInt8.toNat_ofNat']; omega
theorem fb0 (x : UInt32) : nt x % 256 = ((UInt8.ofNat x.toNat).toNat : Int) := by unfold nt; rw [UInt8.toNat_ofNat']; omega

theorem cell_keep {base : Nat} {w1 w' : World} {a : Addr} {v : Value} (hbelf : ∀ w0, Below base w0 w1 → Below base w0 w') (hc : w1.cell? a = some v) (ha : a.block < base) : w'.cell? a = some v := by
  rw [(hbelf w1 (Below.refl _ _)).cell ha]; exact hc

set_option maxRecDepth 1000000 in
set_option maxHeartbeats 1600000 in
theorem spell_any (f : Nat → UInt32) (w : World) :
    Calls Tryz.prog 93 #[.agg (rowOf f 8)] w fun e w' => e = .returned (.string ⟨(spellN f 8).toArray⟩) ∧ Below w.heap.size w w' := by
  have h8 : rowOf f 8 = #[.int .u32 (nt (f 0)), .int .u32 (nt (f 1)), .int .u32 (nt (f 2)), .int .u32 (nt (f 3)), .int .u32 (nt (f 4)), .int .u32 (nt (f 5)), .int .u32 (nt (f 6)), .int .u32 (nt (f 7))] := rfl
  rw [h8]
  clear h8
  obtain ⟨i0, hi, hz0, hz1, hz2⟩ := info_parts Buf.info5
  have hm1 : i0.bytes * 32 ≤ 281474976710656 := by rw [hz2]; omega
  have hm2 : 32 ≤ maxLen := by unfold maxLen; omega
  clear hz2
  have h1 := Row.lit w 125 8 #[.int .u32 (nt (f 0)), .int .u32 (nt (f 1)), .int .u32 (nt (f 2)), .int .u32 (nt (f 3)), .int .u32 (nt (f 4)), .int .u32 (nt (f 5)), .int .u32 (nt (f 6)), .int .u32 (nt (f 7))] f rfl
  have H1 := Lib.hid h1
  clear h1
  go_enter Tryz.func93, Tryz.ntmps93
  go_wp2_with (at_make; refine wpList_make_own _ rfl _ _ 138 rfl (w.heap.size + 1) 5 i0 (.int .u8 0) 1 Tryz.underlying138 hi hz0 hz1 .i64 .i64 32 32 rfl rfl rfl hm1 hm2 (by simp) ?_; intro w1 hown hgrow)
  have hrow0 : Row w1 w.heap.size 8 125 f ∧ Below w.heap.size w w1 := by
    have hb := (Below.refl (w.heap.size + 1) _).grown hgrow (by simp) (fun _ h => by cases h)
    exact ⟨H1.out.below hb (by omega), ((Below.refl _ _).alloc (Nat.le_refl _) _).trans (hb.mono (by omega))⟩
  obtain ⟨hrow0, hbel0⟩ := hrow0
  rw [show ∀ o, (w.alloc o).heap.size = w.heap.size + 1 from fun o => by simp] at hown
  have hbuf0 : Buf.Buf w1 (w.heap.size + 1) (.slice (some ⟨w.heap.size + 1, 0, none⟩) 0 32) (spellN f 0) := hown
  clear hown hgrow hm1 hm2 hi hz0 hz1 H1
  go_loopw [3, 4] (fun bv iv wr => ∃ k : Nat, k ≤ 8 ∧ iv = .int .i64 k ∧ Buf.Buf wr (w.heap.size + 1) bv (spellN f k) ∧ Row wr w.heap.size 8 125 f ∧ Below w.heap.size w wr) (fun _ iv _ => 8 - (intOf iv).toNat)
  case atStart => exact ⟨0, by omega, rfl, hbuf0, hrow0, hbel0⟩
  case round =>
    clear hbuf0 hrow0 hbel0
    obtain ⟨k, hk, rfl, hbuf, hrow, hbel⟩ := hrel
    by_cases hlt : k < 8
    · obtain ⟨hc, _⟩ := hrow.at k hlt
      have hk0 : (0 : Int) ≤ (k : Int) := by omega
      have hk8 : (k : Int) < 8 := by omega
      have f3 := fb3
      have f2 := fb2
      have f1 := fb1
      have f0 := fb0
      have hsz : w.heap.size < wr.heap.size := hrow.lt
      have hlen : (spellN f k).length ≤ 32 := by rw [spellN_length]; omega
      go_wp2_with fail
      go_region_held3 (fun w' => w'.cell? ⟨w.heap.size, k, none⟩ = some (.int .u32 (nt (f k)))) (first | go_keep | (refine cell_keep hbelf ?_ (by simp); go_keep)) ((refine Buf.step_append rfl _ _ rfl (w.heap.size + 1) _ _ rfl (Buf.buf_alloc (Buf.buf_drew hbuf) _) ⟨wr.heap.size, 0, none⟩ 4 4 (by4 (f k)) rfl rfl (Buf.lit_cells _ _) (by omega) (by omega) (by simp; omega) ?_; intro g cap w' hbuf' hbelf))
      all_goals
        go_wp2
        go_roundw
        case rel =>
          have hb' := hbelf _ (((Below.refl _ wr).alloc (by omega) _).drew)
          exact ⟨k + 1, by omega, by go_num, hbuf', hrow.below hb' (by omega), hbel.trans (hb'.mono (by omega))⟩
        case measure => simp [intOf]; omega
    · obtain rfl : k = 8 := by omega
      have hs := Buf.buf_string hbuf
      go_wp2
      go_ret
      exact ⟨rfl, hbel⟩
end Go.Proofs.YtjbnmeofjiokeaaGreatDoor.Sha
namespace Go.Proofs.YtjbnmeofjiokeaaGreatDoor.Sha
open Go.RowKit

/-- How many noughts come behind the mark. -/
def pad (n : Nat) : Nat := (119 - n % 64) % 64
theorem pad_le (n : Nat) : pad n ≤ 63 := by unfold pad; omega
theorem pad_go {n z : Nat} (h : z < pad n) : (n + (z + 1)) % 64 ≠ 56 := by unfold pad at h; omega
theorem pad_end (n : Nat) : (n + (pad n + 1)) % 64 = 56 := by unfold pad; omega
/-- A byte of a message's length. -/
def lenb (n i : Nat) : UInt8 := UInt8.ofNat (n * 8 / 2 ^ (56 - 8 * i))
theorem lenb_int (n i : Nat) : (n : Int) * 8 / 2 ^ (56 - 8 * i) % 256 = ((lenb n i).toNat : Int) := by
  unfold lenb
  rw [UInt8.toNat_ofNat', Int.natCast_emod, Int.natCast_ediv, Int.natCast_mul, Int.natCast_pow]; rfl
def lens (n : Nat) : Nat → List UInt8
  | 0 => []
  | k + 1 => lens n k ++ [lenb n k]
theorem lens_length (n k : Nat) : (lens n k).length = k := by
  induction k with
  | zero => rfl
  | succ k ih => simp [lens, ih]
def fill (n : Nat) : List UInt8 := 128 :: (List.replicate (pad n) 0 ++ lens n 8)
def sliceLen : Value → Nat
  | .slice _ n _ => n
  | _ => 0

set_option maxRecDepth 1000000 in
set_option maxHeartbeats 1600000 in
theorem filling_any (n : Nat) (w : World) (hn : n ≤ 140737488355328) :
    Calls Tryz.prog 92 #[.int .i64 n] w fun e w' => e = .returned (.string ⟨(fill n).toArray⟩) ∧ Below w.heap.size w w' := by
  have hb0 := Buf.buf_lit (base := w.heap.size) w [128] (Nat.le_refl _) (by unfold maxLen; simp)
  go_enter Tryz.func92, Tryz.ntmps92
  go_wp2
  go_loopw [3] (fun bv wr => ∃ z g cap : Nat, z ≤ pad n ∧ bv = .slice (some ⟨g, 0, none⟩) (z + 1) cap ∧ Buf.Buf wr w.heap.size bv (128 :: List.replicate z 0) ∧ Below w.heap.size w wr) (fun bv _ => 70 - sliceLen bv)
  case atStart => exact ⟨0, w.heap.size, 1, Nat.zero_le _, rfl, hb0, (Below.refl _ _).alloc (Nat.le_refl _) _⟩
  case round =>
    clear hb0
    obtain ⟨z, g, cap, hz, rfl, hbuf, hbel⟩ := hrel
    have hp := pad_le n
    have hsz := hbel.size
    by_cases hlt : z < pad n
    · have ht := pad_go hlt
      have ht' : (((n : Int) + ((z : Int) + 1)) % 64 != 56) = true := by rw [bne_iff_ne]; omega
      have hl : (128 :: List.replicate z (0 : UInt8)).length = z + 1 := by simp
      have HL := Lib.hid hl
      clear hl ht
      go_wp2_with (at_builtin; refine Buf.wpList_append_at rfl _ _ rfl w.heap.size _ _ rfl (Buf.buf_alloc hbuf _) ⟨wr.heap.size, 0, none⟩ 1 1 [0] rfl rfl (Buf.one_cells wr _ _ rfl) (by omega) (by have := HL.out; omega) (by simp; omega) ?_; intro g' cap' w' hbuf' hbelf)
      go_roundw
      case rel =>
        rw [HL.out] at hbuf'
        exact ⟨z + 1, g', cap', by omega, rfl, by rw [List.replicate_succ']; exact hbuf', hbelf _ (hbel.alloc hsz _)⟩
      case measure => simp [sliceLen]; omega
    · obtain rfl : z = pad n := by omega
      have ht := pad_end n
      have ht' : (((n : Int) + ((pad n : Int) + 1)) % 64 != 56) = false := by rw [bne_eq_false_iff_eq]; omega
      clear ht hz hlt
      go_wp2
      go_loopw [3, 5] (fun bv iv wr => ∃ k : Nat, k ≤ 8 ∧ iv = .int .i64 k ∧ Buf.Buf wr w.heap.size bv (128 :: (List.replicate (pad n) 0 ++ lens n k)) ∧ Below w.heap.size w wr) (fun _ iv _ => 8 - (intOf iv).toNat)
      case atStart => exact ⟨0, by omega, rfl, by rw [lens, List.append_nil]; exact hbuf, hbel⟩
      case round =>
        clear hbuf hbel hsz
        obtain ⟨k, hk, rfl, hbuf, hbel⟩ := hrel
        have hsz := hbel.size
        by_cases hlt : k < 8
        · have hl : (128 :: (List.replicate (pad n) (0 : UInt8) ++ lens n k)).length ≤ 100 := by simp [lens_length]; omega
          have HL := Lib.hid hl
          clear hl
          have hby := lenb_int n k
          go_wp2_with (at_builtin; refine Buf.wpList_append rfl _ _ rfl w.heap.size _ _ rfl (Buf.buf_alloc hbuf _) ⟨wr.heap.size, 0, none⟩ 1 1 [lenb n k] rfl rfl (Buf.one_cells wr _ _ rfl) (by have := HL.out; omega) (by simp; omega) ?_; intro v' w' hbuf' hbelf)
          go_roundw
          case rel => exact ⟨k + 1, by omega, by go_num, by rw [lens, ← List.append_assoc]; exact hbuf', hbelf _ (hbel.alloc hsz _)⟩
          case measure => simp [intOf]; omega
        · obtain rfl : k = 8 := by omega
          have hs := Buf.buf_string hbuf
          go_wp2
          go_ret
          exact ⟨rfl, hbel⟩
end Go.Proofs.YtjbnmeofjiokeaaGreatDoor.Sha
namespace Go.Proofs.YtjbnmeofjiokeaaGreatDoor.Sha
open Go.RowKit

def h0 (j : Nat) : UInt32 := [0x6a09e667, 0xbb67ae85, 0x3c6ef372, 0xa54ff53a, 0x510e527f, 0x9b05688c, 0x1f83d9ab, 0x5be0cd19].getD j 0
def blk (l : List UInt8) (k : Nat) : ByteArray := ⟨((l.drop (64 * k)).take 64).toArray⟩
def runN (l : List UInt8) : Nat → (Nat → UInt32)
  | 0 => h0
  | k + 1 => mixf (runN l k) (blk l k)
def msg (s : ByteArray) : List UInt8 := s.data.toList ++ fill s.size
/-- The sum of a message. -/
def sha (s : ByteArray) : List UInt8 := spellN (runN (msg s) ((msg s).length / 64)) 8
theorem fill_length (n : Nat) : (fill n).length = pad n + 9 := by simp [fill, lens_length]
theorem msg_length (s : ByteArray) : (msg s).length = s.size + pad s.size + 9 := by
  unfold msg; rw [List.length_append, fill_length, ← Lib.size_eq]; omega
theorem msg_mod (s : ByteArray) : (msg s).length % 64 = 0 := by
  rw [msg_length]; unfold pad; omega
theorem eq_of_list {a b : ByteArray} (h : a.data.toList = b.data.toList) : a = b := by
  apply ByteArray.ext
  exact Array.toList_inj.1 h
theorem blk_front (s : ByteArray) (k : Nat) (h : 64 * k + 64 ≤ s.size) : s.extract (64 * k) (64 * k + 64) = blk (msg s) k := by
  apply eq_of_list
  rw [Lib.extract_data]
  show _ = ((msg s).drop (64 * k)).take 64
  unfold msg
  rw [List.drop_append_of_le_length (by rw [← Lib.size_eq]; omega), List.take_append_of_le_length (by rw [List.length_drop, ← Lib.size_eq]; omega)]
  congr 1; omega
theorem blk_back (s last : ByteArray) (k j : Nat) (hl : last.data.toList = (msg s).drop (64 * k)) : last.extract (64 * j) (64 * j + 64) = blk (msg s) (k + j) := by
  apply eq_of_list
  rw [Lib.extract_data, hl]
  show _ = ((msg s).drop (64 * (k + j))).take 64
  rw [List.drop_drop]
  congr 1
  · omega
  · congr 1; omega

theorem mix_lit (f : Nat → UInt32) (s : ByteArray) (w : World) (hs : s.size = 64) (hk : KT 0 w) :
    Calls Tryz.prog 91 #[.agg #[.int .u32 (nt (f 0)), .int .u32 (nt (f 1)), .int .u32 (nt (f 2)), .int .u32 (nt (f 3)), .int .u32 (nt (f 4)), .int .u32 (nt (f 5)), .int .u32 (nt (f 6)), .int .u32 (nt (f 7))], .string s] w
      fun e w' => e = .returned (.agg (rowOf (mixf f s) 8)) ∧ Below w.heap.size w w' := mix_any f s w hs hk

set_option maxRecDepth 1000000 in
set_option maxHeartbeats 400000 in
theorem sum_any (s : ByteArray) (w : World) (hs : s.size ≤ 140737488355328) (hk : KT 0 w) :
    Calls Tryz.prog 72 #[.string s] w fun e w' => e = .returned (.string ⟨(sha s).toArray⟩) ∧ Below w.heap.size w w' := by
  have HK := Lib.hid hk
  clear hk
  go_enter Tryz.func72, Tryz.ntmps72
  go_wp2_with fail
  generalize hW : World.alloc w _ = W0
  have R0 : Row W0 w.heap.size 8 125 h0 ∧ Below w.heap.size w W0 := by
    rw [← hW]
    exact ⟨Row.lit w 125 8 _ h0 (by kernel_rfl), (Below.refl _ _).alloc (Nat.le_refl _) _⟩
  clear hW
  obtain ⟨hrow, hbel⟩ := R0
  go_loopw [4] (fun av wr => ∃ a k : Nat, Hid (a = 64 * k) ∧ a ≤ s.size ∧ av = .int .i64 a ∧ Row wr w.heap.size 8 125 (runN (msg s) k) ∧ Below w.heap.size w wr) (fun av _ => s.size - (intOf av).toNat)
  case atStart => exact ⟨0, 0, rfl, Nat.zero_le _, rfl, hrow, hbel⟩
  case round =>
    clear hrow hbel
    obtain ⟨a, k, ha, hle, rfl, hrow, hbel⟩ := hrel
    by_cases hlt : a + 64 ≤ s.size
    · obtain ⟨c0, _⟩ := hrow.at 0 (by omega)
      obtain ⟨c1, _⟩ := hrow.at 1 (by omega)
      obtain ⟨c2, _⟩ := hrow.at 2 (by omega)
      obtain ⟨c3, _⟩ := hrow.at 3 (by omega)
      obtain ⟨c4, _⟩ := hrow.at 4 (by omega)
      obtain ⟨c5, _⟩ := hrow.at 5 (by omega)
      obtain ⟨c6, _⟩ := hrow.at 6 (by omega)
      obtain ⟨c7, _⟩ := hrow.at 7 (by omega)
      have hx0 : (0 : Int) ≤ (a : Int) := by omega
      have hx1 : (0 : Int) ≤ (a : Int) + 64 := by omega
      have hx2 : (a : Int) ≤ (a : Int) + 64 := by omega
      have hx3 : (a : Int) + 64 ≤ (s.size : Int) := by omega
      have hx4 : ((a : Int) + 64).toNat = a + 64 := by omega
      have hx5 : IntKind.i64.wrap ((a : Int) + 64) = (a : Int) + 64 := IntWalk.i64_in _ (by omega)
      go_wp2_with fail
      go_still_tail 6, (by kernel_rfl)
      change wpList _ _ _ _ _ wr.drew
      clear c0 c1 c2 c3 c4 c5 c6 c7 hx1 hx2 hx4 hx5
      go_wp2_with fail
      have hxe : (s.extract a (a + 64)).size = 64 := by rw [ByteArray.size_extract]; omega
      refine (mix_lit (runN (msg s) k) (s.extract a (a + 64)) _ hxe (HK.out.below hbel.drew HK.out.lt)).mono ?_
      rintro e' w4 ⟨rfl, hb4⟩
      have hb5 : Below wr.heap.size wr w4 := (Below.refl _ wr).drew.trans hb4
      have hrow4 := hrow.below hb5 hrow.lt
      have hbel4 := hbel.trans (hb5.mono hbel.size)
      have hstep : mixf (runN (msg s) k) (s.extract a (a + 64)) = runN (msg s) (k + 1) := by
        rw [ha.out, blk_front s k (by have := ha.out; omega)]; rfl
      rw [hstep]
      clear hstep hxe
      go_wp2_with (with_reducible refine wpList_store_row rfl 125 _ _ rfl w.heap.size _ rfl rfl 125 _ hrow4.heap (by rw [rowOf_size]; exact infoQ34) (by rw [rowOf_size, rowOf_size]) (rowOf_one _ _) ?_)
      go_roundw
      case rel => exact ⟨a + 64, k + 1, by have := ha.out; show a + 64 = 64 * (k + 1); omega, by omega, by go_num, hrow4.setRow rfl, below_setRow hbel4 (Nat.le_refl _)⟩
      case measure => simp [intOf]; omega
    · have hlt' : ¬ (64 : Int) ≤ (s.size : Int) - (a : Int) := by omega
      have hx0 : (0 : Int) ≤ (a : Int) := by omega
      have hx3 : (a : Int) ≤ (s.size : Int) := by omega
      have hfl : (fill s.size).length ≤ 80 := by have := pad_le s.size; rw [fill_length]; omega
      go_wp2_with fail
      have hcon := fun W => run_string_add_sum (P := Tryz.prog) W (s.extract a s.size) ⟨(fill s.size).toArray⟩ (by have : (⟨(fill s.size).toArray⟩ : ByteArray).size = (fill s.size).length := rfl; rw [this, ByteArray.size_extract]; omega)
      have hfil := Lib.hid (fun W => filling_any s.size W (by omega))
      go_region_with ((go_at_call 92; refine (hfil.out _).mono ?_; rintro e' w4 ⟨rfl, hb4⟩))
      have hb5 : Below wr.heap.size wr w4 := by first | exact hb4 | exact (Below.refl _ wr).drew.trans hb4
      have hrow4 := hrow.below hb5 hrow.lt
      have hbel4 := hbel.trans (hb5.mono hbel.size)
      generalize hlast : s.extract a s.size ++ ({ data := (fill s.size).toArray } : ByteArray) = last
      have hll : last.data.toList = (msg s).drop (64 * k) := by
        rw [← hlast, ByteArray.data_append, Array.toList_append, Lib.extract_data]
        unfold msg
        rw [List.drop_append_of_le_length (by rw [← Lib.size_eq]; have := ha.out; omega), ← ha.out, List.take_of_length_le (by rw [List.length_drop, ← Lib.size_eq]; omega)]
      have hls : last.size = (msg s).length - 64 * k := by rw [Lib.size_eq, hll, List.length_drop]
      have hmod := msg_mod s
      have hml := msg_length s
      have hpad := pad_le s.size
      have hlm : last.size % 64 = 0 ∧ last.size ≤ 300000 ∧ 64 * k ≤ (msg s).length := by have := ha.out; omega
      have HLL := Lib.hid hll
      have HLS := Lib.hid hls
      have HLM := Lib.hid hlm
      have HMOD := Lib.hid hmod
      clear hlast hll hls hlm hmod hml hpad hcon hfl hlt' hx0 hx3 hrow hbel hb4 hb5
      go_wp2
      go_loopw [6] (fun bv wr => ∃ b j : Nat, Hid (b = 64 * j) ∧ b ≤ last.size ∧ bv = .int .i64 b ∧ Row wr w.heap.size 8 125 (runN (msg s) (k + j)) ∧ Below w.heap.size w wr) (fun bv _ => last.size - (intOf bv).toNat)
      case atStart => exact ⟨0, 0, rfl, Nat.zero_le _, rfl, hrow4, hbel4⟩
      case round =>
        clear hrow4 hbel4
        obtain ⟨b, j, hb, hble, rfl, hrow, hbel⟩ := hrel
        have hlm1 : last.size ≤ 300000 := HLM.out.2.1
        by_cases hlt : b < last.size
        · have hlt64 : b + 64 ≤ last.size := by have := HLM.out.1; have := hb.out; omega
          obtain ⟨c0, _⟩ := hrow.at 0 (by omega)
          obtain ⟨c1, _⟩ := hrow.at 1 (by omega)
          obtain ⟨c2, _⟩ := hrow.at 2 (by omega)
          obtain ⟨c3, _⟩ := hrow.at 3 (by omega)
          obtain ⟨c4, _⟩ := hrow.at 4 (by omega)
          obtain ⟨c5, _⟩ := hrow.at 5 (by omega)
          obtain ⟨c6, _⟩ := hrow.at 6 (by omega)
          obtain ⟨c7, _⟩ := hrow.at 7 (by omega)
          have hx0 : (0 : Int) ≤ (b : Int) := by omega
          have hx1 : (0 : Int) ≤ (b : Int) + 64 := by omega
          have hx2 : (b : Int) ≤ (b : Int) + 64 := by omega
          have hx3 : (b : Int) + 64 ≤ (last.size : Int) := by omega
          have hx4 : ((b : Int) + 64).toNat = b + 64 := by omega
          have hx5 : IntKind.i64.wrap ((b : Int) + 64) = (b : Int) + 64 := IntWalk.i64_in _ (by omega)
          go_wp2_with fail
          go_still_tail 6, (by kernel_rfl)
          change wpList _ _ _ _ _ wr.drew
          clear c0 c1 c2 c3 c4 c5 c6 c7 hx1 hx2 hx4 hx5
          go_wp2_with fail
          have hxe : (last.extract b (b + 64)).size = 64 := by rw [ByteArray.size_extract]; omega
          refine (mix_lit (runN (msg s) (k + j)) (last.extract b (b + 64)) _ hxe (HK.out.below hbel.drew HK.out.lt)).mono ?_
          rintro e' w5 ⟨rfl, hb4⟩
          have hb5 : Below wr.heap.size wr w5 := (Below.refl _ wr).drew.trans hb4
          have hrow4 := hrow.below hb5 hrow.lt
          have hbel4 := hbel.trans (hb5.mono hbel.size)
          have hstep : mixf (runN (msg s) (k + j)) (last.extract b (b + 64)) = runN (msg s) (k + (j + 1)) := by
            rw [hb.out, blk_back s last k j HLL.out]; rfl
          rw [hstep]
          clear hstep hxe
          go_wp2_with (with_reducible refine wpList_store_row rfl 125 _ _ rfl w.heap.size _ rfl rfl 125 _ hrow4.heap (by rw [rowOf_size]; exact infoQ34) (by rw [rowOf_size, rowOf_size]) (rowOf_one _ _) ?_)
          go_roundw
          case rel => exact ⟨b + 64, j + 1, by have := hb.out; show b + 64 = 64 * (j + 1); omega, by omega, by go_num, hrow4.setRow rfl, below_setRow hbel4 (Nat.le_refl _)⟩
          case measure => simp [intOf]; omega
        · have hkj : k + j = (msg s).length / 64 := by have := HLM.out; have := HLS.out; have := hb.out; have := HMOD.out; omega
          rw [hkj] at hrow
          have HKJ := Lib.hid hkj
          clear hkj
          go_wp2_with (with_reducible refine wpList_load_row rfl 125 _ rfl w.heap.size rfl 125 _ (0, 0) _ hrow.heap Tryz.underlying125 rfl (by rw [rowOf_size]; exact infoQ34) ?_)
          refine (spell_any _ _).mono ?_
          rintro e' w5 ⟨rfl, hb5⟩
          go_wp2
          go_ret
          exact ⟨rfl, hbel.trans (hb5.mono hbel.size)⟩
end Go.Proofs.YtjbnmeofjiokeaaGreatDoor.Sha
