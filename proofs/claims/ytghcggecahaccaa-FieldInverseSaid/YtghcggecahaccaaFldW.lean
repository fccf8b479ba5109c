/- Layer 3, the document's answers: a number's words. -/
import Derived.Test.YtghcggecahaccaaFldV
import Derived.StillTailTactics
namespace Go.Proofs.Ytghcggecahaccaa.Fld
open Go.RowKit Go.Lib
open Go.Proofs.Ytghcggecahaccaa.Num (val up val_congr val_add val_lt val_up val_digits val_word)
open Go.Proofs.Ytghcggecahaccaa.Arr Go.Proofs.Ytghcggecahaccaa.Sym

theorem info_x : (Try.prog.info? 35).map (·.size) = some 4 := by kernel_rfl
/-- The words of a number's first k bytes. -/
def fw (n k : Nat) : Nat → Nat := fun i => if i < k / 8 then wd n i else if i = k / 8 then wd n i % 256 ^ (k % 8) else 0
theorem fw_here (n k : Nat) : fw n k (k / 8) = wd n (k / 8) % 256 ^ (k % 8) := by
  unfold fw; rw [if_neg (by omega), if_pos rfl]
theorem fw_up (n k : Nat) : up (fw n k) (k / 8) (wd n (k / 8) % 256 ^ (k % 8) + bt n k * 256 ^ (k % 8)) = fw n (k + 1) := by
  have hb : bt n k = wd n (k / 8) / 256 ^ (k % 8) % 256 := by
    have := bt_wd n (k / 8) (k % 8) (Nat.mod_lt _ (by decide))
    rwa [show 8 * (k / 8) + k % 8 = k by omega] at this
  have hs : wd n (k / 8) % 256 ^ (k % 8) + bt n k * 256 ^ (k % 8) = wd n (k / 8) % 256 ^ (k % 8 + 1) := by
    rw [hb, Nat.mod_pow_succ, Nat.mul_comm (256 ^ _)]
  rw [hs]
  funext i
  unfold up fw
  by_cases h7 : k % 8 = 7
  · have e1 : (k + 1) / 8 = k / 8 + 1 := by omega
    have e2 : (k + 1) % 8 = 0 := by omega
    rw [h7, e1, e2]
    by_cases hi : i = k / 8
    · rw [if_pos hi, if_pos (by omega), hi]
      exact Nat.mod_eq_of_lt (wd_lt _ _)
    · rw [if_neg hi, if_neg hi]
      by_cases h : i < k / 8
      · rw [if_pos h, if_pos (by omega)]
      · rw [if_neg h, if_neg (by omega), Nat.pow_zero, Nat.mod_one, ite_self]
  · have e1 : (k + 1) / 8 = k / 8 := by omega
    have e2 : (k + 1) % 8 = k % 8 + 1 := by omega
    rw [e1, e2]
    by_cases hi : i = k / 8
    · rw [if_pos hi, if_neg (by omega), if_pos hi, hi]
    · rw [if_neg hi, if_neg hi, if_neg hi]
theorem fw_all (n : Nat) : rowOf .u64 (fw n 32) 4 = ws n := rowOf_congr fun j hj => by unfold fw; rw [if_pos hj]
theorem fw_none (n : Nat) : rowOf .u64 (fw n 0) 4 = ws 0 := rowOf_congr fun j hj => by
  unfold fw wd; simp [Nat.mod_one]

section
variable {o : Oper} {a : Act} {w : World} {x y : Operand}
theorem run_q8 (n : Nat) (hn : n < 256) (ho : o.op = .binOp .quo 3 x (.const (.int .i64 8)) 3) (hx : a.eval x = .int .i64 (n : Int)) : (execOp a.eval o).run Try.prog w = .ok (.value (.int .i64 ((n / 8 : Nat) : Int))) w := by
  have h0 : (n : Int) < 256 := by omega
  have h1 : (0 : Int) ≤ (n : Int) := by omega
  have hf : a.eval (.const (.int .i64 8)) = .int .i64 8 := rfl
  unfold execOp
  simp only [ho, hx]
  generalize a.eval = f at *
  go_simp
  exact IntWalk.i64_in _ (by omega)
theorem run_r8 (n : Nat) (hn : n < 256) (ho : o.op = .binOp .rem 3 x (.const (.int .i64 8)) 3) (hx : a.eval x = .int .i64 (n : Int)) : (execOp a.eval o).run Try.prog w = .ok (.value (.int .i64 ((n % 8 : Nat) : Int))) w := by
  have h0 : (n : Int) < 256 := by omega
  have h1 : (0 : Int) ≤ (n : Int) := by omega
  have hf : a.eval (.const (.int .i64 8)) = .int .i64 8 := rfl
  unfold execOp
  simp only [ho, hx]
  generalize a.eval = f at *
  go_simp
  exact Int.tmod_eq_emod_of_nonneg h1
theorem run_ix4v (i B : Nat) (ho : o.op = .indexAddr 35 x y) (hx : a.eval x = .pointer (some ⟨B, 0, none⟩)) (hy : a.eval y = .int .i64 (i : Int)) (hi : i < 4) :
    (execOp a.eval o).run Try.prog w = .ok (.value (.pointer (some ⟨B, i, none⟩))) w := by
  have h1 : (i : Int) < 4 := by omega
  have h2 : (0 : Int) ≤ (i : Int) := by omega
  unfold execOp
  simp only [ho, hx, hy]
  generalize a.eval = f at *
  go_simp
theorem run_ix32v (i B : Nat) (ho : o.op = .indexAddr 23 x y) (hx : a.eval x = .pointer (some ⟨B, 0, none⟩)) (hy : a.eval y = .int .i64 (i : Int)) (hi : i < 32) :
    (execOp a.eval o).run Try.prog w = .ok (.value (.pointer (some ⟨B, i, none⟩))) w := by
  have h1 : (i : Int) < 32 := by omega
  have h2 : (0 : Int) ≤ (i : Int) := by omega
  unfold execOp
  simp only [ho, hx, hy]
  generalize a.eval = f at *
  go_simp
theorem run_ld4v {m : Nat} {T : TypeId} (f : Nat → Nat) (i B : Nat) (hr : Row w B m T .u64 f) (ho : o.op = .load 34 x) (hx : a.eval x = .pointer (some ⟨B, i, none⟩)) (hi : i < m) :
    (execOp a.eval o).run Try.prog w = .ok (.value (.int .u64 (f i : Int))) w := by
  have h1 := (hr.at i hi).1
  unfold execOp
  simp only [ho, hx]
  generalize a.eval = g at *
  go_simp
theorem run_ld8v {m : Nat} {T : TypeId} (f : Nat → Nat) (i B : Nat) (hr : Row w B m T .u8 f) (ho : o.op = .load 5 x) (hx : a.eval x = .pointer (some ⟨B, i, none⟩)) (hi : i < m) :
    (execOp a.eval o).run Try.prog w = .ok (.value (.int .u8 (f i : Int))) w := by
  have h1 := (hr.at i hi).1
  unfold execOp
  simp only [ho, hx]
  generalize a.eval = g at *
  go_simp
theorem run_cv8 (n : Nat) (hn : n < 256) (ho : o.op = .convert 5 34 x) (hx : a.eval x = .int .u8 (n : Int)) : (execOp a.eval o).run Try.prog w = .ok (.value (.int .u64 (n : Int))) w := by
  have h0 : (n : Int) < 256 := by omega
  have h1 : (0 : Int) ≤ (n : Int) := by omega
  unfold execOp
  simp only [ho, hx]
  generalize a.eval = f at *
  go_simp
  exact IntWalk.u64_in _ (by omega)
theorem run_cvu (n : Nat) (hn : n < 256) (ho : o.op = .convert 3 32 x) (hx : a.eval x = .int .i64 (n : Int)) : (execOp a.eval o).run Try.prog w = .ok (.value (.int .u64 (n : Int))) w := by
  have h0 : (n : Int) < 256 := by omega
  have h1 : (0 : Int) ≤ (n : Int) := by omega
  unfold execOp
  simp only [ho, hx]
  generalize a.eval = f at *
  go_simp
  exact IntWalk.u64_in _ (by omega)
theorem run_m8 (n : Nat) (hn : n < 8) (ho : o.op = .binOp .mul 32 (.const (.int .u64 8)) x 32) (hx : a.eval x = .int .u64 (n : Int)) : (execOp a.eval o).run Try.prog w = .ok (.value (.int .u64 ((8 * n : Nat) : Int))) w := by
  have h0 : (n : Int) < 8 := by omega
  have h1 : (0 : Int) ≤ (n : Int) := by omega
  have hf : a.eval (.const (.int .u64 8)) = .int .u64 8 := rfl
  unfold execOp
  simp only [ho, hx]
  generalize a.eval = f at *
  go_simp
  exact IntWalk.u64_in _ (by omega)
theorem run_shl8 (v r : Nat) (hv : v < 256) (hr : r < 8) (ho : o.op = .binOp .shl 34 x y 32) (hx : a.eval x = .int .u64 (v : Int)) (hy : a.eval y = .int .u64 ((8 * r : Nat) : Int)) : (execOp a.eval o).run Try.prog w = .ok (.value (.int .u64 ((v * 256 ^ r : Nat) : Int))) w := by
  have h0 : (v : Int) < 256 := by omega
  have h1 : (0 : Int) ≤ (v : Int) := by omega
  unfold execOp
  simp only [ho, hx, hy]
  clear hx hy ho
  generalize a.eval = f at *
  rcases (by omega : r = 0 ∨ r = 1 ∨ r = 2 ∨ r = 3 ∨ r = 4 ∨ r = 5 ∨ r = 6 ∨ r = 7) with rfl | rfl | rfl | rfl | rfl | rfl | rfl | rfl <;> go_simp <;> exact IntWalk.u64_in _ (by omega)
theorem run_or8 (u v r : Nat) (hu : u < 256 ^ r) (hv : v < 256) (hr : r < 8) (ho : o.op = .binOp .or 34 x y 34) (hx : a.eval x = .int .u64 (u : Int)) (hy : a.eval y = .int .u64 ((v * 256 ^ r : Nat) : Int)) : (execOp a.eval o).run Try.prog w = .ok (.value (.int .u64 ((u + v * 256 ^ r : Nat) : Int))) w := by
  have hb : bits BinOp.or IntKind.u64 (u : Int) ((v * 256 ^ r : Nat) : Int) = ((u + v * 256 ^ r : Nat) : Int) := by
    rcases (by omega : r = 0 ∨ r = 1 ∨ r = 2 ∨ r = 3 ∨ r = 4 ∨ r = 5 ∨ r = 6 ∨ r = 7) with rfl | rfl | rfl | rfl | rfl | rfl | rfl | rfl
    · rw [bits_join_low .u64 64 (by decide) wraps_u64 0 _ _ (by omega) (by omega) (by omega) (by omega) (by omega) (by omega)]; omega
    · rw [bits_join_low .u64 64 (by decide) wraps_u64 8 _ _ (by omega) (by omega) (by omega) (by omega) (by omega) (by omega)]; omega
    · rw [bits_join_low .u64 64 (by decide) wraps_u64 16 _ _ (by omega) (by omega) (by omega) (by omega) (by omega) (by omega)]; omega
    · rw [bits_join_low .u64 64 (by decide) wraps_u64 24 _ _ (by omega) (by omega) (by omega) (by omega) (by omega) (by omega)]; omega
    · rw [bits_join_low .u64 64 (by decide) wraps_u64 32 _ _ (by omega) (by omega) (by omega) (by omega) (by omega) (by omega)]; omega
    · rw [bits_join_low .u64 64 (by decide) wraps_u64 40 _ _ (by omega) (by omega) (by omega) (by omega) (by omega) (by omega)]; omega
    · rw [bits_join_low .u64 64 (by decide) wraps_u64 48 _ _ (by omega) (by omega) (by omega) (by omega) (by omega) (by omega)]; omega
    · rw [bits_join_low .u64 64 (by decide) wraps_u64 56 _ _ (by omega) (by omega) (by omega) (by omega) (by omega) (by omega)]; omega
  generalize v * 256 ^ r = z at *
  unfold execOp
  simp only [ho, hx, hy]
  clear hx hy ho
  generalize a.eval = f at *
  go_simp
end

set_option maxHeartbeats 1000000 in
theorem rwords_any (n : Nat) (w : World) : Calls Try.prog 40 #[.agg (bs n)] w fun e w' => e = .returned (.agg (ws n)) ∧ Below w.heap.size w w' := by
  go_enter Try.func40, Try.ntmps40
  go_wp2_with fail
  generalize hW : World.alloc _ _ = W0
  have h0 : Fr w W0 [(bs n, 23), (ws 0, 35), (rowOf .u64 (fw n 0) 4, 35)] := by rw [fw_none]; exact hW ▸ Fr.three w (bs n) (ws 0) (ws 0) _ _ _
  clear hW
  go_loopw [4] (fun iv wr => ∃ k : Nat, k ≤ 32 ∧ iv = .int .i64 (k : Int) ∧ Fr w wr [(bs n, 23), (ws 0, 35), (rowOf .u64 (fw n k) 4, 35)]) (fun iv _ => 32 - (intOf iv).toNat)
  case atStart => exact ⟨0, by omega, rfl, h0⟩
  case round =>
    clear h0
    obtain ⟨k, hk, rfl, h0⟩ := hrel
    by_cases hlt : k < 32
    · have k0 : (0 : Int) ≤ (k : Int) := by omega
      have k1 : (k : Int) < 32 := by omega
      have kq : k / 8 < 4 := by omega
      have kr : k % 8 < 8 := by omega
      go_wp2_with fail
      refine wp_region_still_tail 17 (by kernel_rfl) (by kernel_rfl) ?_
      simp only [List.take_succ_cons, List.take_zero, List.drop_succ_cons, List.drop_zero]
      change wpStill _ _ (World.drew wr) _ _ _
      have h1 := h0.drew
      have r0 : Row (World.drew wr) w.heap.size 32 23 .u8 (bt n) := h1.at' 0 _ _ rfl
      have r2 : Row (World.drew wr) (w.heap.size + 2) 4 35 .u64 (fw n k) := h1.at' 2 _ _ rfl
      refine still_value (.int .i64 (k : Int)) rfl (run_mv rfl rfl) ?_
      simp only [Act.put, List.setIfInBounds_toArray, List.set_cons_zero, List.set_cons_succ]
      refine still_value (.int .i64 ((k / 8 : Nat) : Int)) rfl (run_q8 k (by omega) rfl rfl) ?_
      simp only [Act.put, List.setIfInBounds_toArray, List.set_cons_zero, List.set_cons_succ]
      refine still_value (.int .i64 (k : Int)) rfl (run_mv rfl rfl) ?_
      simp only [Act.put, List.setIfInBounds_toArray, List.set_cons_zero, List.set_cons_succ]
      refine still_value (.int .i64 ((k / 8 : Nat) : Int)) rfl (run_q8 k (by omega) rfl rfl) ?_
      simp only [Act.put, List.setIfInBounds_toArray, List.set_cons_zero, List.set_cons_succ]
      refine still_value (.pointer (some ⟨w.heap.size + 2, k / 8, none⟩)) rfl (run_ix4v (k / 8) (w.heap.size + 2) rfl rfl rfl kq) ?_
      simp only [Act.put, List.setIfInBounds_toArray, List.set_cons_zero, List.set_cons_succ]
      refine still_value (.int .u64 (fw n k (k / 8) : Int)) rfl (run_ld4v (fw n k) (k / 8) (w.heap.size + 2) r2 rfl rfl kq) ?_
      simp only [Act.put, List.setIfInBounds_toArray, List.set_cons_zero, List.set_cons_succ]
      refine still_value (.int .i64 (k : Int)) rfl (run_mv rfl rfl) ?_
      simp only [Act.put, List.setIfInBounds_toArray, List.set_cons_zero, List.set_cons_succ]
      refine still_value (.pointer (some ⟨w.heap.size, k, none⟩)) rfl (run_ix32v k w.heap.size rfl rfl rfl hlt) ?_
      simp only [Act.put, List.setIfInBounds_toArray, List.set_cons_zero, List.set_cons_succ]
      refine still_value (.int .u8 (bt n k : Int)) rfl (run_ld8v (bt n) k w.heap.size r0 rfl rfl hlt) ?_
      simp only [Act.put, List.setIfInBounds_toArray, List.set_cons_zero, List.set_cons_succ]
      refine still_value (.int .u64 (bt n k : Int)) rfl (run_cv8 (bt n k) (bt_lt _ _) rfl rfl) ?_
      simp only [Act.put, List.setIfInBounds_toArray, List.set_cons_zero, List.set_cons_succ]
      refine still_value (.int .i64 (k : Int)) rfl (run_mv rfl rfl) ?_
      simp only [Act.put, List.setIfInBounds_toArray, List.set_cons_zero, List.set_cons_succ]
      refine still_value (.int .i64 ((k % 8 : Nat) : Int)) rfl (run_r8 k (by omega) rfl rfl) ?_
      simp only [Act.put, List.setIfInBounds_toArray, List.set_cons_zero, List.set_cons_succ]
      refine still_value (.int .u64 ((k % 8 : Nat) : Int)) rfl (run_cvu (k % 8) (by omega) rfl rfl) ?_
      simp only [Act.put, List.setIfInBounds_toArray, List.set_cons_zero, List.set_cons_succ]
      refine still_value (.int .u64 ((8 * (k % 8) : Nat) : Int)) rfl (run_m8 (k % 8) kr rfl rfl) ?_
      simp only [Act.put, List.setIfInBounds_toArray, List.set_cons_zero, List.set_cons_succ]
      refine still_value (.int .u64 ((bt n k * 256 ^ (k % 8) : Nat) : Int)) rfl (run_shl8 (bt n k) (k % 8) (bt_lt _ _) kr rfl rfl rfl) ?_
      simp only [Act.put, List.setIfInBounds_toArray, List.set_cons_zero, List.set_cons_succ]
      refine still_value (.int .u64 ((fw n k (k / 8) + bt n k * 256 ^ (k % 8) : Nat) : Int)) rfl (run_or8 (fw n k (k / 8)) (bt n k) (k % 8) (by rw [fw_here]; exact Nat.mod_lt _ (Nat.pow_pos (by decide))) (bt_lt _ _) kr rfl rfl rfl) ?_
      simp only [Act.put, List.setIfInBounds_toArray, List.set_cons_zero, List.set_cons_succ]
      refine still_value (.pointer (some ⟨w.heap.size + 2, k / 8, none⟩)) rfl (run_ix4v (k / 8) (w.heap.size + 2) rfl rfl rfl kq) ?_
      simp only [Act.put, List.setIfInBounds_toArray, List.set_cons_zero, List.set_cons_succ]
      refine wpStill_nil ?_
      have hu := fw_up n k
      rw [← fw_here] at hu
      generalize fw n k (k / 8) + bt n k * 256 ^ (k % 8) = z at *
      obtain ⟨c3, f3⟩ := r2.at (k / 8) kq
      change wpList _ _ _ _ _ (World.drew wr)
      generalize World.drew wr = wd at *
      have H1 := Lib.hid h1
      have HU := Lib.hid hu
      clear r0 r2 h0 h1 hu
      go_wp2
      go_roundw
      case rel => exact ⟨k + 1, by omega, by go_num, H1.out.put 2 rfl (k / 8) _ _ (by rw [rowOf_set, HU.out])⟩
      case measure => simp [intOf]; omega
    · obtain rfl : k = 32 := by omega
      rw [show ((32 : Nat) : Int) = (32 : Int) from rfl]
      rw [fw_all] at h0
      go_wp2_with (first
        | (with_reducible refine wpList_load_row rfl 35 _ rfl (w.heap.size + 2) rfl 35 _ (0, 0) _ (h0.at' 2 _ _ rfl) Try.underlying35 rfl (by rw [ws_sz]; exact info_x) ?_)
        | (with_reducible refine wpList_store_row rfl 35 _ _ rfl (w.heap.size + 1) (ws n) rfl rfl 35 _ (h0.at' 1 _ _ rfl) (by rw [ws_sz]; exact info_x) (by rw [ws_sz, ws_sz]) (ws_one _) ?_))
      refine bodyPost_ret (v := .agg (ws n)) (results_cell_row rfl _ _ (w.heap.size + 1) 35 _ (0, 0) _ rfl (setRow_heap _ _ _ _ _ _ (h0.at' 1 _ _ rfl)) Try.underlying35 rfl (by rw [ws_sz]; exact info_x)) rfl ⟨rfl, below_setRow h0.below (by omega)⟩
end Go.Proofs.Ytghcggecahaccaa.Fld
