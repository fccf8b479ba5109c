/- Layer 3: products that leave rests, powers. -/
import Derived.Test.YtfpphinnngblgaaDoorFldE
namespace Go.Proofs.YtfpphinnngblgaaDoor.Fld
open Go.RowKit Go.Shelf
open Go.Proofs.YtfpphinnngblgaaDoor.Num (val up val_congr val_add val_lt val_up val_digits val_word)
open Go.Proofs.YtfpphinnngblgaaDoor.Arr

theorem four (a b c d : Value) : #[a, b, c, d].size = 4 := rfl
theorem mul_fact (a b : Nat) (ha : a < MM) (hb : b < MM) :
    over (a * b / MM) 38 4 + car (a * b) (a * b / MM * 38) 4 < 18446744073709551616 ∧ (a * b + a * b / MM * 38) % MM < MM ∧
    ((a * b + a * b / MM * 38) % MM + (over (a * b / MM) 38 4 + car (a * b) (a * b / MM * 38) 4) * MM) % PP = a * b % PP := by
  have hm : a * b / MM < MM := Nat.div_lt_of_lt_mul (Nat.mul_lt_mul'' ha hb)
  have hc : car (a * b) (a * b / MM * 38) 4 = car (a * b % MM) (a * b / MM * 38 % MM) 4 := by
    unfold car; rw [MM_eq]; simp only [Nat.mod_mod]
  rw [over_top _ _ hm, hc, car_top _ _ (Nat.mod_lt _ (by decide)) (Nat.mod_lt _ (by decide))]
  generalize a * b = n at *
  have h1 : n = MM * (n / MM) + n % MM := (Nat.div_add_mod n MM).symm
  have h2 : n % MM < MM := Nat.mod_lt _ (by decide)
  generalize n / MM = q at *
  generalize n % MM = r at *
  subst h1
  have e : (MM * q + r) % PP = (r + q * 38) % PP := by
    have : MM * q + r = (r + q * 38) + PP * (2 * q) := by unfold MM PP; omega
    rw [this, Nat.add_mul_mod_self_left]
  rw [e]
  refine ⟨by unfold MM at *; omega, Nat.mod_lt _ (by decide), ?_⟩
  congr 1
  unfold MM at *
  omega

set_option maxHeartbeats 1000000 in
theorem multiply_any (a b : Nat) (ha : a < MM) (hb : b < MM) (w : World) : Calls Tryd.prog 50 #[.agg (ws a), .agg (ws b)] w fun e w' => e = .returned (.agg (ws (a * b % PP))) ∧ Below w.heap.size w w' := by
  have HA := Lib.hid ha
  have HB := Lib.hid hb
  have HF := Lib.hid (mul_fact a b ha hb)
  clear ha hb
  go_enter Tryd.func50, Tryd.ntmps50
  go_wp2_with (first | (with_reducible refine wpList_load_row rfl 52 _ rfl (w.heap.size) rfl 52 _ (0, 0) _ ((Fr.three w _ _ _ _ _ _).at' 0 _ _ rfl) Tryd.underlying52 rfl (by rw [ws_sz]; exact info_w) ?_) | (with_reducible refine wpList_load_row rfl 52 _ rfl (w.heap.size + 1) rfl 52 _ (0, 0) _ ((Fr.three w _ _ _ _ _ _).at' 1 _ _ rfl) Tryd.underlying52 rfl (by rw [ws_sz]; exact info_w) ?_))
  generalize hW : World.alloc _ _ = W0
  have h0 : Fr w W0 [(ws a, 52), (ws b, 52), (ws 0, 52)] := hW ▸ Fr.three w (ws a) (ws b) (ws 0) _ _ _
  clear hW
  refine (product_any a b HA.out HB.out _).mono ?_
  rintro e w1 ⟨rfl, hb1⟩
  have h1 := h0.call hb1
  clear h0 hb1
  go_wp2_with (first
    | ((with_reducible refine wpList_store_row rfl 52 _ _ rfl (w1.heap.size) (ws (a * b)) rfl rfl 52 _ ((Fr.two w1 _ _ _ _).at' 0 _ _ rfl) (by rw [ws_sz]; exact info_w) (by rw [ws_sz]; exact four _ _ _ _) (ws_one _) ?_); generalize hW2 : World.setRow _ _ _ = W2; have f2 : Fr w1 W2 [(ws (a * b), 52), (ws 0, 52)] := hW2 ▸ ((Fr.two w1 (ws 0) (ws 0) _ _).set 0 rfl (ws (a * b))); clear hW2)
    | ((with_reducible refine wpList_store_row rfl 52 _ _ rfl (w1.heap.size + 1) (ws (a * b / MM)) rfl rfl 52 _ (f2.at' 1 _ _ rfl) (by rw [ws_sz]; exact info_w) (by rw [ws_sz, ws_sz]) (ws_one _) ?_); generalize hW3 : World.setRow W2 _ _ = W3; have f3 : Fr w1 W3 [(ws (a * b), 52), (ws (a * b / MM), 52)] := hW3 ▸ (f2.set 1 rfl (ws (a * b / MM))); clear hW3)
    | (with_reducible refine wpList_load_row rfl 52 _ rfl (w1.heap.size + 1) rfl 52 _ (0, 0) _ (f3.at' 1 _ _ rfl) Tryd.underlying52 rfl (by rw [ws_sz]; exact info_w) ?_))
  refine (times_any (a * b / MM) 38 (by omega) _).mono ?_
  rintro e w4 ⟨rfl, hb4⟩
  have f4 := f3.call hb4
  clear f2 f3 hb4
  have hov : (over (a * b / MM) 38 4 : Int) + (car (a * b) (a * b / MM * 38) 4 : Int) < 18446744073709551616 := by have := HF.out.1; omega
  go_wp2_with (first
    | ((with_reducible refine wpList_store_row rfl 52 _ _ rfl (w4.heap.size) (ws (a * b / MM * 38)) rfl rfl 52 _ ((Fr.one w4 _ _).at' 0 _ _ rfl) (by rw [ws_sz]; exact info_w) (by rw [ws_sz]; exact four _ _ _ _) (ws_one _) ?_); generalize hW5 : World.setRow _ _ _ = W5; have f5 : Fr w4 W5 [(ws (a * b / MM * 38), 52)] := hW5 ▸ ((Fr.one w4 (ws 0) _).set 0 rfl (ws (a * b / MM * 38))); have g5 := f4.call f5.below; clear hW5)
    | (with_reducible refine wpList_load_row rfl 52 _ rfl (w1.heap.size) rfl 52 _ (0, 0) _ (g5.at' 0 _ _ rfl) Tryd.underlying52 rfl (by rw [ws_sz]; exact info_w) ?_) | (with_reducible refine wpList_load_row rfl 52 _ rfl (w4.heap.size) rfl 52 _ (0, 0) _ (f5.at' 0 _ _ rfl) Tryd.underlying52 rfl (by rw [ws_sz]; exact info_w) ?_))
  refine (plus_any (a * b) (a * b / MM * 38) _).mono ?_
  rintro e w6 ⟨rfl, hb6'⟩
  go_wp2_with (first
    | ((with_reducible refine wpList_store_row rfl 52 _ _ rfl (w6.heap.size) (ws (a * b + a * b / MM * 38)) rfl rfl 52 _ ((Fr.one w6 _ _).at' 0 _ _ rfl) (by rw [ws_sz]; exact info_w) (by rw [ws_sz]; exact four _ _ _ _) (ws_one _) ?_); generalize hW7 : World.setRow _ _ _ = W7; have f7 : Fr w6 W7 [(ws (a * b + a * b / MM * 38), 52)] := hW7 ▸ ((Fr.one w6 (ws 0) _).set 0 rfl (ws (a * b + a * b / MM * 38))); clear hW7)
    | (with_reducible refine wpList_load_row rfl 52 _ rfl (w6.heap.size) rfl 52 _ (0, 0) _ (f7.at' 0 _ _ rfl) Tryd.underlying52 rfl (by rw [ws_sz]; exact info_w) ?_))
  rw [← ws_mod]
  have hov2 : (over (a * b / MM) 38 4 : Int) + (car (a * b) (a * b / MM * 38) 4 : Int) = ((over (a * b / MM) 38 4 + car (a * b) (a * b / MM * 38) 4 : Nat) : Int) := by omega
  rw [hov2]
  refine (fold_any _ _ HF.out.2.1 HF.out.1 _).mono ?_
  rintro e w9 ⟨rfl, hb9⟩
  have HE := HF.out.2.2
  rw [HE]
  clear HE
  have h9 : Fr w w9 [(ws a, 52), (ws b, 52), (ws 0, 52)] := (((h1.call g5.below).call hb6').call f7.below).call hb9
  clear hov hov2 g5 f5 f7 hb6' hb9 f4 h1 HF
  go_wp2_with (with_reducible refine wpList_store_row rfl 52 _ _ rfl (w.heap.size + 2) (ws (a * b % PP)) rfl rfl 52 _ (h9.at' 2 _ _ rfl) (by rw [ws_sz]; exact info_w) (by rw [ws_sz, ws_sz]) (ws_one _) ?_)
  refine bodyPost_ret (v := .agg (ws (a * b % PP))) (results_cell_row rfl _ _ (w.heap.size + 2) 52 _ (0, 0) _ rfl (setRow_heap _ _ _ _ _ _ (h9.at' 2 _ _ rfl)) Tryd.underlying52 rfl (by rw [ws_sz]; exact info_w)) rfl ⟨rfl, below_setRow h9.below (by omega)⟩
end Go.Proofs.YtfpphinnngblgaaDoor.Fld
