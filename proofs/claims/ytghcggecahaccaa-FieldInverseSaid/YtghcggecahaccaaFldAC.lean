/- Layer 3, the document's answers: powers. -/
import Derived.Test.YtghcggecahaccaaFldAA
import Derived.Test.YtghcggecahaccaaFldR
namespace Go.Proofs.Ytghcggecahaccaa.Fld
open Go.RowKit Go.Shelf Go.Lib
open Go.Proofs.Ytghcggecahaccaa.Num (val up val_congr val_add val_lt val_up val_digits val_word)
open Go.Proofs.Ytghcggecahaccaa.Arr Go.Proofs.Ytghcggecahaccaa.Sym

/-- Bit j of n in its byte. -/
theorem bit_bt (n j : Nat) : bt n (j / 8) / 2 ^ (j % 8) % 2 = n / 2 ^ j % 2 := by
  unfold bt
  have e : (256 : Nat) = 2 ^ 8 := by decide
  have e2 : (2 : Nat) ^ j = 2 ^ (8 * (j / 8)) * 2 ^ (j % 8) := by rw [← Nat.pow_add]; congr 1; omega
  rw [e, ← Nat.pow_mul, e2, ← Nat.div_div_eq_div_mul]
  generalize n / 2 ^ (8 * (j / 8)) = x
  have h3 : j % 8 < 8 := Nat.mod_lt _ (by decide)
  generalize j % 8 = s at *
  rw [show (2 : Nat) ^ 8 = 2 ^ s * (2 * 2 ^ (7 - s)) by rw [← Nat.pow_succ', ← Nat.pow_add]; congr 1; omega]
  rw [Nat.mod_mul_right_div_self]
  exact Nat.mod_mul_right_mod _ _ _

theorem bit_testb (n j : Nat) : (bits BinOp.and IntKind.u8 ((bt n (j / 8) : Int) / 2 ^ (j % 8)) 1 == 1) = decide (n / 2 ^ j % 2 = 1) := by
  have e : ((bt n (j / 8) : Int) / 2 ^ (j % 8)) = ((bt n (j / 8) / 2 ^ (j % 8) : Nat) : Int) := by
    simp
  rw [e]
  have h := (bits_nat IntKind.u8 8 (by decide) wraps_u8 (bt n (j / 8) / 2 ^ (j % 8)) 1 (Nat.lt_of_le_of_lt (Nat.div_le_self _ _) (bt_lt _ _)) (by omega)).1
  have h2 : bits BinOp.and IntKind.u8 ((bt n (j / 8) / 2 ^ (j % 8) : Nat) : Int) 1 = ((bt n (j / 8) / 2 ^ (j % 8) &&& 1 : Nat) : Int) := h
  rw [h2, Nat.and_one_is_mod, bit_bt]
  have : n / 2 ^ j % 2 = 0 ∨ n / 2 ^ j % 2 = 1 := by omega
  rcases this with h | h <;> rw [h] <;> decide

set_option maxHeartbeats 1000000 in
theorem rpower_any (a n : Nat) (ha : a < MM) (hn : n < MM) (w : World) : Calls Try.prog 27 #[.agg (bs a), .agg (bs n)] w fun e w' => e = .returned (.agg (bs (a ^ n % PP))) ∧ Below w.heap.size w w' := by
  have HA := Lib.hid ha
  have HN := Lib.hid hn
  clear ha hn
  go_enter Try.func27, Try.ntmps27
  have hbel0 := Below.refl w.heap.size w
  go_step
  go_step
  go_step
  refine lst (wanted_none rfl) (w_alloc (c := bs a) (T := 23) 2 rfl (run_box rfl rfl) (fun w1 he2 => ?_))
  have k3 := Blk.new he2
  have hg4 : w.heap.size ≤ w.heap.size := hbel0.size
  have hbel5 := bel_alloc hbel0 he2
  simp only [List.setIfInBounds_toArray, List.set_cons_zero, List.set_cons_succ]
  refine lst (wanted_none rfl) (w_alloc (c := bs n) (T := 23) 3 rfl (run_box rfl rfl) (fun w6 he7 => ?_))
  have hne9 : w.heap.size ≠ w1.heap.size := Nat.ne_of_lt k3.lt
  have k8 := k3.alloc he7
  have k10 := Blk.new he7
  have hg11 : w.heap.size ≤ w1.heap.size := hbel5.size
  have hbel12 := bel_alloc hbel5 he7
  simp only [List.setIfInBounds_toArray, List.set_cons_zero, List.set_cons_succ]
  refine lst (wanted_none rfl) (w_alloc (c := bs 0) (T := 23) 4 rfl (run_alN rfl) (fun w13 he14 => ?_))
  have hne16 : w.heap.size ≠ w6.heap.size := Nat.ne_of_lt k8.lt
  have k15 := k8.alloc he14
  have hne18 : w1.heap.size ≠ w6.heap.size := Nat.ne_of_lt k10.lt
  have k17 := k10.alloc he14
  have k19 := Blk.new he14
  have hg20 : w.heap.size ≤ w6.heap.size := hbel12.size
  have hbel21 := bel_alloc hbel12 he14
  simp only [List.setIfInBounds_toArray, List.set_cons_zero, List.set_cons_succ]
  go_step
  go_step
  go_step
  go_step
  go_step
  refine lst (wanted_none rfl) (w_value 7 (.agg (bs 1)) rfl (by unfold execOp; go_simp; rfl) ?_)
  simp only [List.setIfInBounds_toArray, List.set_cons_zero, List.set_cons_succ]
  refine lst (wanted_none rfl) (w_alloc (c := bs 0) (T := 23) 5 rfl (run_alN rfl) (fun w22 he23 => ?_))
  have hne25 : w.heap.size ≠ w13.heap.size := Nat.ne_of_lt k15.lt
  have k24 := k15.alloc he23
  have hne27 : w1.heap.size ≠ w13.heap.size := Nat.ne_of_lt k17.lt
  have k26 := k17.alloc he23
  have hne29 : w6.heap.size ≠ w13.heap.size := Nat.ne_of_lt k19.lt
  have k28 := k19.alloc he23
  have k30 := Blk.new he23
  have hg31 : w.heap.size ≤ w13.heap.size := hbel21.size
  have hbel32 := bel_alloc hbel21 he23
  simp only [List.setIfInBounds_toArray, List.set_cons_zero, List.set_cons_succ]
  refine lst (wanted_none rfl) (w_store 23 _ _ (w13.heap.size) (bs 1) rfl rfl rfl rfl k30 (by rw [bs_sz]; exact info_b) ((bs_sz _).trans (bs_sz _).symm) (bs_one _) (fun w33 he34 => ?_))
  have k35 := k24.other hne25 he34
  have k36 := k26.other hne27 he34
  have k37 := k28.other hne29 he34
  have k38 := k30.set he34
  have hbel39 := bel_set hbel32 hg31 he34
  go_step
  have e1 : w1.heap.size = w.heap.size + 1 := by rw [he2]; simp
  have e2 : w6.heap.size = w.heap.size + 2 := by rw [he7]; simp [e1]
  have e3 : w13.heap.size = w.heap.size + 3 := by rw [he14]; simp [e2]
  rw [e1, e2, e3]
  have f0 : Blk w33 (w.heap.size + 0) (bs a) 23 := by exact k35
  have f1 : Blk w33 (w.heap.size + 1) (bs n) 23 := by rw [← e1]; exact k36
  have f2 : Blk w33 (w.heap.size + 2) (bs 0) 23 := by rw [← e2]; exact k37
  have f3 : Blk w33 (w.heap.size + 3) (bs 1) 23 := by rw [← e3]; exact k38
  have h0 : Fr w w33 [(bs a, 23), (bs n, 23), (bs 0, 23), (bs 1, 23)] := ⟨fun i c T h => by rcases i with _ | _ | _ | _ | i <;> simp at h <;> (obtain ⟨rfl, rfl⟩ := h; first | exact f0 | exact f1 | exact f2 | exact f3), hbel39, by have := f3.lt; simp; omega⟩
  clear f0 f1 f2 f3 e1 e2 e3 hbel39 k38 k37 k36 k35 hbel32 hg31 k30 k28 hne29 k26 hne27 k24 hne25 hbel21 hg20 k19 k17 hne18 k15 hne16 hbel12 hg11 k10 k8 hne9 hbel5 hg4 k3 he34 he23 he14 he7 he2
  generalize w33 = W0 at *
  go_step
  go_step
  go_wp2_with fail
  have e256 : a ^ (n / 2 ^ 256) % PP = 1 := by
    rw [Nat.div_eq_of_lt (by have := HN.out; unfold MM at this; omega), Nat.pow_zero]; decide
  go_loopw [6] (fun iv wr => ∃ (k : Nat) (x : Int), k ≤ 256 ∧ x = (k : Int) - 1 ∧ iv = .int .i64 x ∧ Fr w wr [(bs a, 23), (bs n, 23), (bs 0, 23), (bs (a ^ (n / 2 ^ k) % PP), 23)]) (fun iv _ => (intOf iv + 1).toNat)
  case atStart => exact ⟨256, 255, by omega, by decide, rfl, by rw [e256]; exact h0⟩
  case round =>
    clear h0 e256
    obtain ⟨k, x, hk, hx, rfl, h0⟩ := hrel
    rcases k with _ | j
    · obtain rfl : x = -1 := by omega
      rw [Nat.pow_zero, Nat.div_one] at h0
      clear hx hk
      go_wp2_with (first | (with_reducible refine wpList_load_row rfl 23 _ rfl (w.heap.size + 3) rfl 23 _ (0, 0) _ (h0.at' 3 _ _ rfl) Try.underlying23 rfl (by rw [bs_sz]; exact info_b) ?_) | (with_reducible refine wpList_store_row rfl 23 _ _ rfl (w.heap.size + 2) (bs (a ^ n % PP)) rfl rfl 23 _ (h0.at' 2 _ _ rfl) (by rw [bs_sz]; exact info_b) (by rw [bs_sz, bs_sz]) (bs_one _) ?_))
      refine bodyPost_ret (v := .agg (bs (a ^ n % PP))) (results_cell_row rfl _ _ (w.heap.size + 2) 23 _ (0, 0) _ rfl (setRow_heap _ _ _ _ _ _ (h0.at' 2 _ _ rfl)) Try.underlying23 rfl (by rw [bs_sz]; exact info_b)) rfl ⟨rfl, below_setRow h0.below (by omega)⟩
    · obtain rfl : x = (j : Int) := by omega
      clear hx
      obtain ⟨r, hr⟩ : ∃ r, r = a ^ (n / 2 ^ (j + 1)) % PP := ⟨_, rfl⟩
      rw [← hr] at h0
      have hrl : r < MM := by rw [hr]; exact Nat.lt_trans (Nat.mod_lt _ (by decide)) pp_lt
      have HR := Lib.hid hr
      have HL := Lib.hid hrl
      clear hr hrl
      have j0 : (0 : Int) ≤ (j : Int) := by omega
      have j1 : (j : Int) ≤ 255 := by omega
      have x1 : ((j : Int) / 8).toNat = j / 8 := by omega
      have x2 : (0 : Int) ≤ (j : Int) / 8 := by omega
      have x3 : (j : Int) / 8 < 32 := by omega
      have x4 : (0 : Int) ≤ (j : Int) % 8 := by omega
      have x5 : ((j : Int) % 8).toNat = j % 8 := by omega
      go_wp2_with (with_reducible refine wpList_load_row rfl 23 _ rfl (w.heap.size + 3) rfl 23 _ (0, 0) _ (h0.at' 3 _ _ rfl) Try.underlying23 rfl (by rw [bs_sz]; exact info_b) ?_)
      refine (rmul_any r r HL.out HL.out _).mono ?_
      rintro e w1 ⟨rfl, hb1⟩
      generalize hq : r * r % PP = q
      have hql : q < MM := by rw [← hq]; exact Nat.lt_trans (Nat.mod_lt _ (by decide)) pp_lt
      have HQ := Lib.hid hq
      have HQL := Lib.hid hql
      clear hq hql
      have h1 := h0.call hb1
      clear h0 hb1
      by_cases hb : n / 2 ^ j % 2 = 1
      · have ht : (bits BinOp.and IntKind.u8 ((bt n (j / 8) : Int) / 2 ^ (j % 8)) 1 == 1) = true := by rw [bit_testb]; simpa using hb
        go_wp2_with (first | ((with_reducible refine wpList_store_row rfl 23 _ _ rfl (w.heap.size + 3) (bs q) rfl rfl 23 _ (h1.at' 3 _ _ rfl) (by rw [bs_sz]; exact info_b) (by rw [bs_sz, bs_sz]) (bs_one _) ?_); generalize hW2 : World.setRow _ _ _ = W2; have h2 : Fr w W2 [(bs a, 23), (bs n, 23), (bs 0, 23), (bs q, 23)] := hW2 ▸ (h1.set 3 rfl (bs q)); clear hW2; obtain ⟨c1, _⟩ := (show Row W2 (w.heap.size + 1) 32 23 .u8 (bt n) from h2.at' 1 _ _ rfl).at (j / 8) (by omega)) | (with_reducible refine wpList_load_row rfl 23 _ rfl (w.heap.size + 3) rfl 23 _ (0, 0) _ (h2.at' 3 _ _ rfl) Try.underlying23 rfl (by rw [bs_sz]; exact info_b) ?_) | (with_reducible refine wpList_load_row rfl 23 _ rfl (w.heap.size) rfl 23 _ (0, 0) _ (h2.at' 0 _ _ rfl) Try.underlying23 rfl (by rw [bs_sz]; exact info_b) ?_))
        refine (rmul_any q a HQL.out HA.out _).mono ?_
        rintro e w3 ⟨rfl, hb3⟩
        generalize hp : q * a % PP = p
        have HP := Lib.hid hp
        clear hp
        have h3 := h2.call hb3
        clear h2 hb3 c1
        go_wp2_with (with_reducible refine wpList_store_row rfl 23 _ _ rfl (w.heap.size + 3) (bs p) rfl rfl 23 _ (h3.at' 3 _ _ rfl) (by rw [bs_sz]; exact info_b) (by rw [bs_sz, bs_sz]) (bs_one _) ?_)
        go_roundw
        case rel =>
          refine ⟨j, (j : Int) - 1, by omega, rfl, rfl, ?_⟩
          rw [← pow_odd a n j hb, ← HR.out, HQ.out, HP.out]
          exact h3.set 3 rfl (bs p)
        case measure => simp [intOf]
      · have ht : (bits BinOp.and IntKind.u8 ((bt n (j / 8) : Int) / 2 ^ (j % 8)) 1 == 1) = false := by rw [bit_testb]; simpa using hb
        have hb0 : n / 2 ^ j % 2 = 0 := by omega
        have HB := Lib.hid hb0
        clear hb hb0
        go_wp2_with ((with_reducible refine wpList_store_row rfl 23 _ _ rfl (w.heap.size + 3) (bs q) rfl rfl 23 _ (h1.at' 3 _ _ rfl) (by rw [bs_sz]; exact info_b) (by rw [bs_sz, bs_sz]) (bs_one _) ?_); generalize hW2 : World.setRow _ _ _ = W2; have h2 : Fr w W2 [(bs a, 23), (bs n, 23), (bs 0, 23), (bs q, 23)] := hW2 ▸ (h1.set 3 rfl (bs q)); clear hW2; obtain ⟨c1, _⟩ := (show Row W2 (w.heap.size + 1) 32 23 .u8 (bt n) from h2.at' 1 _ _ rfl).at (j / 8) (by omega))
        go_roundw
        case rel =>
          refine ⟨j, (j : Int) - 1, by omega, rfl, rfl, ?_⟩
          rw [← pow_even a n j HB.out, ← HR.out, HQ.out]
          exact h2
        case measure => simp [intOf]
end Go.Proofs.Ytghcggecahaccaa.Fld
