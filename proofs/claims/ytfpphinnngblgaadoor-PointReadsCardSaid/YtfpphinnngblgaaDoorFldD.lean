/- Layer 3: folding, products by a word. -/
import Derived.Test.YtfpphinnngblgaaDoorFldC
import Derived.Test.YtfpphinnngblgaaDoorFldN
import Derived.Test.YtfpphinnngblgaaDoorFr
namespace Go.Proofs.YtfpphinnngblgaaDoor.Fld
open Go.RowKit Go.Shelf
open Go.Proofs.YtfpphinnngblgaaDoor.Num (val up val_congr val_add val_lt val_up val_digits val_word)
open Go.Proofs.YtfpphinnngblgaaDoor.Arr

theorem bs_sz (n : Nat) : (bs n).size = 32 := rowOf_size _ _ _
/-- math/bits.Mul64 of this translation. -/
def mulRen : Go.Shelf.Ren := ⟨fun | 264 => 58 | n => n, fun | 53 => 50 | 46 => 40 | n => n, fun | n => n⟩
theorem mulLays : Go.Proofs.Lays.n264 Tryd.prog mulRen := {
  mixed := by kernel_rfl
  f264 := Tryd.func58.trans (congrArg some (by kernel_rfl))
  t46 := Tryd.underlying40
  a46 := Tryd.isAgg40
  z46 := Tryd.sizeOf40
  v46 := Tryd.zeroValue40
  t53 := Tryd.underlying50
  a53 := Tryd.isAgg50
  z53 := Tryd.sizeOf50
  v53 := Tryd.zeroValue50 }
theorem mul64 (x y : Nat) (hx : x < 18446744073709551616) (hy : y < 18446744073709551616) (w : World) :
    Calls Tryd.prog 58 #[.int .u64 x, .int .u64 y] w fun e w' => e = .returned (.tuple #[.int .u64 ((x * y / 18446744073709551616 : Nat) : Int), .int .u64 ((x * y % 18446744073709551616 : Nat) : Int)]) ∧ w = w' :=
  (Any.bits_Mul64 mulLays x y hx hy w).mono fun _ _ h => ⟨h.1, h.2.symm⟩
theorem mul_wd (x y : Nat) (hx : x < 18446744073709551616) (hy : y < 18446744073709551616) (w : World) :
    Calls Tryd.prog 58 #[.int .u64 x, .int .u64 y] w fun e w' => e = .returned (.tuple #[.int .u64 (wd (x * y) 1 : Int), .int .u64 (wd (x * y) 0 : Int)]) ∧ w = w' := by
  have h := mul_high x y hx hy
  have e1 : wd (x * y) 1 = x * y / 18446744073709551616 := by unfold wd; rw [Nat.pow_one, Nat.mod_eq_of_lt (by omega)]
  have e0 : wd (x * y) 0 = x * y % 18446744073709551616 := by unfold wd; rw [Nat.pow_zero, Nat.div_one]
  rw [e1, e0]
  exact mul64 x y hx hy w
theorem wd_hi (n : Nat) (i : Nat) (h : n < 340282366920938463463374607431768211456) (hi : 2 ≤ i) : wd n i = 0 := by
  unfold wd
  rw [Nat.div_eq_of_lt]
  obtain ⟨k, rfl⟩ : ∃ k, i = 2 + k := ⟨i - 2, by omega⟩
  rw [Nat.pow_add]
  have := wpow_pos k
  have h2 : (18446744073709551616 : Nat) ^ 2 * 1 ≤ 18446744073709551616 ^ 2 * 18446744073709551616 ^ k := Nat.mul_le_mul_left _ this
  omega
theorem plus_2 (a n : Nat) (hn : n < 340282366920938463463374607431768211456) (w : World) : Calls Tryd.prog 51 #[.agg (ws a), .agg #[.int .u64 (wd n 0 : Int), .int .u64 (wd n 1 : Int), .int .u64 0, .int .u64 0]] w fun e w' => e = .returned (.tuple #[.agg (ws (a + n)), .int .u64 (car a n 4 : Int)]) ∧ Below w.heap.size w w' := by
  have e : ws n = #[.int .u64 (wd n 0 : Int), .int .u64 (wd n 1 : Int), .int .u64 0, .int .u64 0] := by
    rw [ws_w4]; unfold w4; rw [wd_hi n 2 hn (by omega), wd_hi n 3 hn (by omega)]; rfl
  rw [← e]
  exact plus_any a n w
theorem plus_1 (a n : Nat) (x : Int) (hx : x = (n : Int)) (hn : n < 18446744073709551616) (w : World) : Calls Tryd.prog 51 #[.agg (ws a), .agg #[.int .u64 x, .int .u64 0, .int .u64 0, .int .u64 0]] w fun e w' => e = .returned (.tuple #[.agg (ws (a + n)), .int .u64 (car a n 4 : Int)]) ∧ Below w.heap.size w w' := by
  have e0 : wd n 0 = n := by unfold wd; rw [Nat.pow_zero, Nat.div_one, Nat.mod_eq_of_lt hn]
  have e1 : wd n 1 = 0 := by unfold wd; rw [Nat.pow_one, Nat.div_eq_of_lt hn]
  have h := plus_2 a n (by omega) w
  rw [e0, e1] at h
  rw [hx]
  exact h
theorem fold_fact (a c : Nat) (ha : a < MM) (hc : c < 18446744073709551616) :
    (a + c * 38 + 38 * car a (c * 38) 4) % MM < MM ∧ (a + c * 38 + 38 * car a (c * 38) 4) % MM % PP = (a + c * MM) % PP := by
  rw [car_top a _ ha (by unfold MM; omega)]
  have e : (a + c * MM) % PP = (a + c * 38) % PP := by
    have : a + c * MM = (a + c * 38) + PP * (2 * c) := by unfold MM PP; omega
    rw [this, Nat.add_mul_mod_self_left]
  rw [e]
  generalize hx : a + c * 38 = x
  have hxl : x < MM + 18446744073709551616 * 38 := by omega
  clear hx e ha hc
  refine ⟨Nat.mod_lt _ (by decide), ?_⟩
  by_cases hq : x < MM
  · rw [Nat.div_eq_of_lt hq, Nat.mul_zero, Nat.add_zero, Nat.mod_eq_of_lt hq]
  · have hd : x / MM = 1 := by unfold MM at *; omega
    rw [hd]
    have hm : (x + 38 * 1) % MM = x - 2 * PP := by unfold MM PP at *; omega
    rw [hm]
    have hx2 : x = (x - 2 * PP) + PP * 2 := by unfold MM PP at *; omega
    conv => rhs; rw [hx2]
    rw [Nat.add_mul_mod_self_left]
theorem ws_mod (n : Nat) : ws (n % MM) = ws n := rowOf_congr fun j hj => wd_mod n j hj

set_option maxHeartbeats 1000000 in
theorem fold_any (a c : Nat) (ha : a < MM) (hc : c < 18446744073709551616) (w : World) : Calls Tryd.prog 52 #[.agg (ws a), .int .u64 c] w fun e w' => e = .returned (.agg (ws ((a + c * MM) % PP))) ∧ Below w.heap.size w w' := by
  have HA := Lib.hid ha
  have HC := Lib.hid hc
  clear ha hc
  go_enter Tryd.func52, Tryd.ntmps52
  go_wp2_with fail
  generalize hW : World.alloc _ _ = W0
  have h0 : Fr w W0 [(ws a, 52), (ws 0, 52)] := hW ▸ Fr.two w (ws a) (ws 0) _ _
  clear hW
  refine (mul_wd c 38 HC.out (by omega) _).mono ?_
  rintro e w' ⟨rfl, rfl⟩
  go_wp2_with (with_reducible refine wpList_load_row rfl 52 _ rfl (w.heap.size) rfl 52 _ (0, 0) _ (h0.at' 0 _ _ rfl) Tryd.underlying52 rfl (by rw [ws_sz]; exact info_w) ?_)
  refine (plus_2 a (c * 38) (by have := HC.out; omega) _).mono ?_
  rintro e w1 ⟨rfl, hb1⟩
  have h1 := h0.call hb1
  have hcar : (car a (c * 38) 4 : Int) ≤ 1 := by have := car_le a (c * 38) 4; omega
  have HX : Hid ((38 : Int) * (car a (c * 38) 4 : Int) = ((38 * car a (c * 38) 4 : Nat) : Int)) := by show _ = _; omega
  go_wp2_with (first | ((with_reducible refine wpList_store_row rfl 52 _ _ rfl (w.heap.size) (ws (a + c * 38)) rfl rfl 52 _ (h1.at' 0 _ _ rfl) (by rw [ws_sz]; exact info_w) (by rw [ws_sz, ws_sz]) (ws_one _) ?_); generalize hW2 : World.setRow w1 _ _ = W2; have h2 : Fr w W2 [(ws (a + c * 38), 52), (ws 0, 52)] := hW2 ▸ (h1.set 0 rfl (ws (a + c * 38))); clear hW2) | (with_reducible refine wpList_load_row rfl 52 _ rfl (w.heap.size) rfl 52 _ (0, 0) _ (h2.at' 0 _ _ rfl) Tryd.underlying52 rfl (by rw [ws_sz]; exact info_w) ?_))
  refine (plus_1 (a + c * 38) (38 * car a (c * 38) 4) _ HX.out (by have := car_le a (c * 38) 4; omega) _).mono ?_
  rintro e w3 ⟨rfl, hb3⟩
  have h3 := h2.call hb3
  go_wp2_with (first | ((with_reducible refine wpList_store_row rfl 52 _ _ rfl (w.heap.size) (ws (a + c * 38 + 38 * car a (c * 38) 4)) rfl rfl 52 _ (h3.at' 0 _ _ rfl) (by rw [ws_sz]; exact info_w) (by rw [ws_sz, ws_sz]) (ws_one _) ?_); generalize hW4 : World.setRow w3 _ _ = W4; have h4 : Fr w W4 [(ws (a + c * 38 + 38 * car a (c * 38) 4), 52), (ws 0, 52)] := hW4 ▸ (h3.set 0 rfl (ws (a + c * 38 + 38 * car a (c * 38) 4))); clear hW4) | (with_reducible refine wpList_load_row rfl 52 _ rfl (w.heap.size) rfl 52 _ (0, 0) _ (h4.at' 0 _ _ rfl) Tryd.underlying52 rfl (by rw [ws_sz]; exact info_w) ?_))
  rw [← ws_mod]
  refine (rest_any _ (fold_fact a c HA.out HC.out).1 _).mono ?_
  rintro e w5 ⟨rfl, hb5⟩
  rw [(fold_fact a c HA.out HC.out).2]
  have h5 := h4.call hb5
  go_wp2_with (with_reducible refine wpList_store_row rfl 52 _ _ rfl (w.heap.size + 1) (ws ((a + c * MM) % PP)) rfl rfl 52 _ (h5.at' 1 _ _ rfl) (by rw [ws_sz]; exact info_w) (by rw [ws_sz, ws_sz]) (ws_one _) ?_)
  refine bodyPost_ret (v := .agg (ws ((a + c * MM) % PP))) (results_cell_row rfl _ _ (w.heap.size + 1) 52 _ (0, 0) _ rfl (setRow_heap _ _ _ _ _ _ (h5.at' 1 _ _ rfl)) Tryd.underlying52 rfl (by rw [ws_sz]; exact info_w)) rfl ⟨rfl, below_setRow h5.below (by omega)⟩

set_option maxHeartbeats 1000000 in
theorem times_any (a x : Nat) (hx : x < 18446744073709551616) (w : World) : Calls Tryd.prog 66 #[.agg (ws a), .int .u64 x] w fun e w' => e = .returned (.tuple #[.agg (ws (a * x)), .int .u64 (over a x 4 : Int)]) ∧ Below w.heap.size w w' := by
  have HX := Lib.hid hx
  clear hx
  go_enter Tryd.func66, Tryd.ntmps66
  go_wp2_with fail
  generalize hW : World.alloc _ _ = W0
  have h0 : Fr w W0 [(ws a, 52), (ws 0, 52), (rowOf .u64 (part (a * x) 0) 4, 52)] := hW ▸ Fr.three w (ws a) (ws 0) (rowOf .u64 (part (a * x) 0) 4) _ _ _
  clear hW
  go_loopw [7, 8] (fun cv iv wr => ∃ k : Nat, k ≤ 4 ∧ iv = .int .i64 (k : Int) ∧ cv = .int .u64 (over a x k : Int) ∧ Fr w wr [(ws a, 52), (ws 0, 52), (rowOf .u64 (part (a * x) k) 4, 52)]) (fun _ iv _ => 4 - (intOf iv).toNat)
  case atStart => exact ⟨0, by omega, rfl, by rw [over_zero]; rfl, h0⟩
  case round =>
    clear h0
    obtain ⟨k, hk, rfl, rfl, h0⟩ := hrel
    by_cases hlt : k < 4
    · have r0 : Row wr w.heap.size 4 52 .u64 (wd a) := h0.at' 0 _ _ rfl
      have r2 : Row wr (w.heap.size + 2) 4 52 .u64 (part (a * x) k) := h0.at' 2 _ _ rfl
      obtain ⟨c1, _⟩ := r0.at k hlt
      obtain ⟨c3, f3⟩ := r2.at k hlt
      clear r0
      have hk0 : (0 : Int) ≤ (k : Int) := by omega
      have hk4 : (k : Int) < 4 := by omega
      have R2 := Lib.hid r2
      have H0 := Lib.hid h0
      clear r2 h0
      go_wp2_with fail
      refine (mul64 (wd a k) x (wd_lt _ _) HX.out _).mono ?_
      rintro e w' ⟨rfl, rfl⟩
      obtain ⟨hi, hhi⟩ : ∃ hi, hi = wd a k * x / 18446744073709551616 := ⟨_, rfl⟩
      obtain ⟨lo, hlo⟩ : ∃ lo, lo = wd a k * x % 18446744073709551616 := ⟨_, rfl⟩
      rw [← hhi, ← hlo]
      have hll : lo < 18446744073709551616 := by omega
      have hol := over_lt a x k HX.out
      obtain ⟨s1, s2⟩ := times_step (wd a k * x) (over a x k)
      have hH := (mul_high (wd a k) x (wd_lt _ _) HX.out).1
      rw [← wd_mul, ← hlo] at s1
      rw [← over_succ, ← hlo, ← hhi] at s2
      rw [← hhi] at hH
      have hadd : ∀ w, (callFunc 59 #[.int .u64 (lo : Int), .int .u64 (over a x k : Int), .int .u64 0]).run Tryd.prog w = .ok (.value (.tuple #[.int .u64 (wd (a * x) k : Int), .int .u64 (((lo + over a x k) / 18446744073709551616 : Nat) : Int)])) w := by
        intro w
        have := add64 lo (over a x k) 0 hll hol (by omega) w
        rw [s1] at this
        exact this
      obtain ⟨cc, hcc⟩ : ∃ cc, cc = (lo + over a x k) / 18446744073709551616 := ⟨_, rfl⟩
      rw [← hcc] at hadd
      rw [Nat.add_zero, ← hcc] at s2
      have hcc1 : (cc : Int) ≤ 1 := by omega
      have hhc : (hi : Int) + 1 < 18446744073709551616 := by omega
      have s3 : (hi : Int) + (cc : Int) = (over a x (k + 1) : Int) := by omega
      clear hcc s2 s1 hlo hhi hll hol hH
      go_wp2
      go_roundw
      case rel =>
        refine ⟨k + 1, by omega, by go_num, rfl, ?_⟩
        exact H0.out.put 2 rfl k _ _ (by rw [rowOf_set, part_up])
      case measure => simp [intOf]; omega
    · obtain rfl : k = 4 := by omega
      rw [show ((4 : Nat) : Int) = (4 : Int) from rfl]
      rw [part_all] at h0
      go_wp2_with (first | (with_reducible refine wpList_load_row rfl 52 _ rfl (w.heap.size + 2) rfl 52 _ (0, 0) _ (h0.at' 2 _ _ rfl) Tryd.underlying52 rfl (by rw [ws_sz]; exact info_w) ?_) | (with_reducible refine wpList_store_row rfl 52 _ _ rfl (w.heap.size + 1) (ws (a * x)) rfl rfl 52 _ (h0.at' 1 _ _ rfl) (by rw [ws_sz]; exact info_w) (by rw [ws_sz, ws_sz]) (ws_one _) ?_))
      refine bodyPost_ret (results_cell_tmp rfl _ _ (w.heap.size + 1) 52 (ws (a * x)) (0, 0) _ (.int .u64 (over a x 4 : Int)) rfl rfl (setRow_heap _ _ _ _ _ _ (h0.at' 1 _ _ rfl)) Tryd.underlying52 rfl (by rw [ws_sz]; exact info_w)) rfl ⟨rfl, below_setRow h0.below (by omega)⟩
end Go.Proofs.YtfpphinnngblgaaDoor.Fld
