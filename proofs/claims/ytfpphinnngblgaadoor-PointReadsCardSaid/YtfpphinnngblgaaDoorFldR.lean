/- Layer 3: powers. -/
import Derived.Test.YtfpphinnngblgaaDoorFldG
namespace Go.Proofs.YtfpphinnngblgaaDoor.Fld
open Go.RowKit Go.Shelf Go.Lib
open Go.Proofs.YtfpphinnngblgaaDoor.Num (val up val_congr val_add val_lt val_up val_digits val_word)
open Go.Proofs.YtfpphinnngblgaaDoor.Arr

theorem half (n j : Nat) : n / 2 ^ j = 2 * (n / 2 ^ (j + 1)) + n / 2 ^ j % 2 := by
  rw [Nat.pow_succ, ← Nat.div_div_eq_div_mul]; omega
theorem pow_even (a n j : Nat) (h : n / 2 ^ j % 2 = 0) : a ^ (n / 2 ^ (j + 1)) % PP * (a ^ (n / 2 ^ (j + 1)) % PP) % PP = a ^ (n / 2 ^ j) % PP := by
  rw [← Nat.mul_mod, ← Nat.pow_add, half n j, h]; congr 2; omega
theorem pow_odd (a n j : Nat) (h : n / 2 ^ j % 2 = 1) : a ^ (n / 2 ^ (j + 1)) % PP * (a ^ (n / 2 ^ (j + 1)) % PP) % PP * a % PP = a ^ (n / 2 ^ j) % PP := by
  rw [← Nat.mul_mod, Nat.mod_mul_mod, ← Nat.pow_add, ← Nat.pow_succ, half n j, h]; congr 2; omega
/-- Bit j of n in its word. -/
theorem bit_wd (n j : Nat) : wd n (j / 64) / 2 ^ (j % 64) % 2 = n / 2 ^ j % 2 := by
  unfold wd
  have e : (18446744073709551616 : Nat) = 2 ^ 64 := by decide
  have e2 : (2 : Nat) ^ j = 2 ^ (64 * (j / 64)) * 2 ^ (j % 64) := by rw [← Nat.pow_add]; congr 1; omega
  rw [e, ← Nat.pow_mul, e2, ← Nat.div_div_eq_div_mul]
  generalize n / 2 ^ (64 * (j / 64)) = x
  have h3 : j % 64 < 64 := Nat.mod_lt _ (by decide)
  generalize j % 64 = s at *
  rw [show (2 : Nat) ^ 64 = 2 ^ s * (2 * 2 ^ (63 - s)) by rw [← Nat.pow_succ', ← Nat.pow_add]; congr 1; omega]
  rw [Nat.mod_mul_right_div_self]
  exact Nat.mod_mul_right_mod _ _ _

theorem bit_test (n j : Nat) : (bits BinOp.and IntKind.u64 ((wd n (j / 64) : Int) / 2 ^ (j % 64)) 1 == 1) = decide (n / 2 ^ j % 2 = 1) := by
  have e : ((wd n (j / 64) : Int) / 2 ^ (j % 64)) = ((wd n (j / 64) / 2 ^ (j % 64) : Nat) : Int) := by
    simp
  rw [e]
  have h := bits_and_u64_nat (wd n (j / 64) / 2 ^ (j % 64)) 1 (Nat.lt_of_le_of_lt (Nat.div_le_self _ _) (wd_lt _ _)) (by omega)
  have h2 : bits BinOp.and IntKind.u64 ((wd n (j / 64) / 2 ^ (j % 64) : Nat) : Int) 1 = ((wd n (j / 64) / 2 ^ (j % 64) &&& 1 : Nat) : Int) := h
  rw [h2, Nat.and_one_is_mod, bit_wd]
  have : n / 2 ^ j % 2 = 0 ∨ n / 2 ^ j % 2 = 1 := by omega
  rcases this with h | h <;> rw [h] <;> decide

set_option maxHeartbeats 1000000 in
theorem raise_any (a n : Nat) (ha : a < MM) (hn : n < MM) (w : World) : Calls Tryd.prog 54 #[.agg (ws a), .agg (ws n)] w fun e w' => e = .returned (.agg (ws (a ^ n % PP))) ∧ Below w.heap.size w w' := by
  have HA := Lib.hid ha
  have HN := Lib.hid hn
  clear ha hn
  go_enter Tryd.func54, Tryd.ntmps54
  go_wp2_with fail
  generalize hW : World.alloc _ _ = W0
  have h0 : Fr w W0 [(ws a, 52), (ws n, 52), (ws 0, 52), (ws 1, 52)] := hW ▸ Fr.four w (ws a) (ws n) (ws 0) (ws 1) _ _ _ _
  clear hW
  have e256 : a ^ (n / 2 ^ 256) % PP = 1 := by
    rw [Nat.div_eq_of_lt (by have := HN.out; unfold MM at this; omega), Nat.pow_zero]; decide
  go_loopw [6] (fun iv wr => ∃ (k : Nat) (x : Int), k ≤ 256 ∧ x = (k : Int) - 1 ∧ iv = .int .i64 x ∧ Fr w wr [(ws a, 52), (ws n, 52), (ws 0, 52), (ws (a ^ (n / 2 ^ k) % PP), 52)]) (fun iv _ => (intOf iv + 1).toNat)
  case atStart => exact ⟨256, 255, by omega, by decide, rfl, by rw [e256]; exact h0⟩
  case round =>
    clear h0 e256
    obtain ⟨k, x, hk, hx, rfl, h0⟩ := hrel
    rcases k with _ | j
    · obtain rfl : x = -1 := by omega
      rw [Nat.pow_zero, Nat.div_one] at h0
      clear hx hk
      go_wp2_with (first | (with_reducible refine wpList_load_row rfl 52 _ rfl (w.heap.size + 3) rfl 52 _ (0, 0) _ (h0.at' 3 _ _ rfl) Tryd.underlying52 rfl (by rw [ws_sz]; exact info_w) ?_) | (with_reducible refine wpList_store_row rfl 52 _ _ rfl (w.heap.size + 2) (ws (a ^ n % PP)) rfl rfl 52 _ (h0.at' 2 _ _ rfl) (by rw [ws_sz]; exact info_w) (by rw [ws_sz, ws_sz]) (ws_one _) ?_))
      refine bodyPost_ret (v := .agg (ws (a ^ n % PP))) (results_cell_row rfl _ _ (w.heap.size + 2) 52 _ (0, 0) _ rfl (setRow_heap _ _ _ _ _ _ (h0.at' 2 _ _ rfl)) Tryd.underlying52 rfl (by rw [ws_sz]; exact info_w)) rfl ⟨rfl, below_setRow h0.below (by omega)⟩
    · obtain rfl : x = (j : Int) := by omega
      clear hx
      obtain ⟨r, hr⟩ : ∃ r, r = a ^ (n / 2 ^ (j + 1)) % PP := ⟨_, rfl⟩
      rw [← hr] at h0
      have hrl : r < MM := by rw [hr]; exact Nat.lt_trans (Nat.mod_lt _ (by decide)) pp_lt
      have HR := Lib.hid hr
      have HL := Lib.hid hrl
      clear hr hrl
      have j0 : (0 : Int) ≤ (j : Int) := by omega
      have j1 : (j : Int) ≤ 255 := by omega
      have x1 : ((j : Int) / 64).toNat = j / 64 := by omega
      have x2 : (0 : Int) ≤ (j : Int) / 64 := by omega
      have x3 : (j : Int) / 64 < 4 := by omega
      have x4 : (0 : Int) ≤ (j : Int) % 64 := by omega
      have x5 : ((j : Int) % 64).toNat = j % 64 := by omega
      go_wp2_with (with_reducible refine wpList_load_row rfl 52 _ rfl (w.heap.size + 3) rfl 52 _ (0, 0) _ (h0.at' 3 _ _ rfl) Tryd.underlying52 rfl (by rw [ws_sz]; exact info_w) ?_)
      refine (multiply_any r r HL.out HL.out _).mono ?_
      rintro e w1 ⟨rfl, hb1⟩
      generalize hq : r * r % PP = q
      have hql : q < MM := by rw [← hq]; exact Nat.lt_trans (Nat.mod_lt _ (by decide)) pp_lt
      have HQ := Lib.hid hq
      have HQL := Lib.hid hql
      clear hq hql
      have h1 := h0.call hb1
      clear h0 hb1
      by_cases hb : n / 2 ^ j % 2 = 1
      · have ht : (bits BinOp.and IntKind.u64 ((wd n (j / 64) : Int) / 2 ^ (j % 64)) 1 == 1) = true := by rw [bit_test]; simpa using hb
        go_wp2_with (first | ((with_reducible refine wpList_store_row rfl 52 _ _ rfl (w.heap.size + 3) (ws q) rfl rfl 52 _ (h1.at' 3 _ _ rfl) (by rw [ws_sz]; exact info_w) (by rw [ws_sz, ws_sz]) (ws_one _) ?_); generalize hW2 : World.setRow _ _ _ = W2; have h2 : Fr w W2 [(ws a, 52), (ws n, 52), (ws 0, 52), (ws q, 52)] := hW2 ▸ (h1.set 3 rfl (ws q)); clear hW2; obtain ⟨c1, _⟩ := (show Row W2 (w.heap.size + 1) 4 52 .u64 (wd n) from h2.at' 1 _ _ rfl).at (j / 64) (by omega)) | (with_reducible refine wpList_load_row rfl 52 _ rfl (w.heap.size + 3) rfl 52 _ (0, 0) _ (h2.at' 3 _ _ rfl) Tryd.underlying52 rfl (by rw [ws_sz]; exact info_w) ?_) | (with_reducible refine wpList_load_row rfl 52 _ rfl (w.heap.size) rfl 52 _ (0, 0) _ (h2.at' 0 _ _ rfl) Tryd.underlying52 rfl (by rw [ws_sz]; exact info_w) ?_))
        refine (multiply_any q a HQL.out HA.out _).mono ?_
        rintro e w3 ⟨rfl, hb3⟩
        generalize hp : q * a % PP = p
        have HP := Lib.hid hp
        clear hp
        have h3 := h2.call hb3
        clear h2 hb3 c1
        go_wp2_with (with_reducible refine wpList_store_row rfl 52 _ _ rfl (w.heap.size + 3) (ws p) rfl rfl 52 _ (h3.at' 3 _ _ rfl) (by rw [ws_sz]; exact info_w) (by rw [ws_sz, ws_sz]) (ws_one _) ?_)
        go_roundw
        case rel =>
          refine ⟨j, (j : Int) - 1, by omega, rfl, rfl, ?_⟩
          rw [← pow_odd a n j hb, ← HR.out, HQ.out, HP.out]
          exact h3.set 3 rfl (ws p)
        case measure => simp [intOf]
      · have ht : (bits BinOp.and IntKind.u64 ((wd n (j / 64) : Int) / 2 ^ (j % 64)) 1 == 1) = false := by rw [bit_test]; simpa using hb
        have hb0 : n / 2 ^ j % 2 = 0 := by omega
        have HB := Lib.hid hb0
        clear hb hb0
        go_wp2_with ((with_reducible refine wpList_store_row rfl 52 _ _ rfl (w.heap.size + 3) (ws q) rfl rfl 52 _ (h1.at' 3 _ _ rfl) (by rw [ws_sz]; exact info_w) (by rw [ws_sz, ws_sz]) (ws_one _) ?_); generalize hW2 : World.setRow _ _ _ = W2; have h2 : Fr w W2 [(ws a, 52), (ws n, 52), (ws 0, 52), (ws q, 52)] := hW2 ▸ (h1.set 3 rfl (ws q)); clear hW2; obtain ⟨c1, _⟩ := (show Row W2 (w.heap.size + 1) 4 52 .u64 (wd n) from h2.at' 1 _ _ rfl).at (j / 64) (by omega))
        go_roundw
        case rel =>
          refine ⟨j, (j : Int) - 1, by omega, rfl, rfl, ?_⟩
          rw [← pow_even a n j HB.out, ← HR.out, HQ.out]
          exact h2
        case measure => simp [intOf]
end Go.Proofs.YtfpphinnngblgaaDoor.Fld
