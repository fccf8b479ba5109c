/- Layer 4: division bit by bit, products; what the package offers. -/
import Derived.Test.YtcemcnbhnedaaaaScA
namespace Go.Proofs.Ytcemcnbhnedaaaa.Fld
open Go.RowKit Go.Shelf
open Go.Proofs.Ytcemcnbhnedaaaa.Num (val up val_congr val_add val_lt val_up val_digits val_word)
open Go.Proofs.Ytcemcnbhnedaaaa.Arr Go.Proofs.Ytcemcnbhnedaaaa.Sym Go.Proofs.Ytcemcnbhnedaaaa.Sx

theorem mul64_b (x y : Nat) (hx : x < 18446744073709551616) (hy : y < 18446744073709551616) (w : World) :
    Calls Try.prog 26 #[.int .u64 x, .int .u64 y] w fun e w' => e = .returned (.tuple #[.int .u64 ((x * y / 18446744073709551616 : Nat) : Int), .int .u64 ((x * y % 18446744073709551616 : Nat) : Int)]) ∧ Below w.heap.size w w' :=
  (mul64 x y hx hy w).mono fun _ _ h => ⟨h.1, h.2 ▸ Below.refl _ _⟩
theorem run_b4 {o : Oper} {a : Act} {w : World} {x0 x1 x2 x3 : Operand} (m n k : Nat) (hk : ∀ j, wd n j = wd m (k + j)) (ho : o.op = .build 37 #[(0, x0), (1, x1), (2, x2), (3, x3)])
    (h0 : a.eval x0 = .int .u64 (wd m (k + 0) : Int)) (h1 : a.eval x1 = .int .u64 (wd m (k + 1) : Int)) (h2 : a.eval x2 = .int .u64 (wd m (k + 2) : Int)) (h3 : a.eval x3 = .int .u64 (wd m (k + 3) : Int)) :
    (execOp a.eval o).run Try.prog w = .ok (.value (.agg (ws n))) w := by
  rw [← hk] at h0 h1 h2 h3
  unfold execOp
  simp only [ho]
  generalize a.eval = f at *
  simp [h0, h1, h2, h3, go_sem, ws, rowOf, List.range, List.range.loop]
theorem run_b8 {o : Oper} {a : Act} {w : World} {x0 x1 x2 x3 : Operand} (n : Nat) (hn : n < MM) (ho : o.op = .build 40 #[(0, x0), (1, x1), (2, x2), (3, x3)])
    (h0 : a.eval x0 = .int .u64 (wd n 0 : Int)) (h1 : a.eval x1 = .int .u64 (wd n 1 : Int)) (h2 : a.eval x2 = .int .u64 (wd n 2 : Int)) (h3 : a.eval x3 = .int .u64 (wd n 3 : Int)) :
    (execOp a.eval o).run Try.prog w = .ok (.value (.agg (w8 n))) w := by
  have e : w8 n = #[.int .u64 (wd n 0 : Int), .int .u64 (wd n 1 : Int), .int .u64 (wd n 2 : Int), .int .u64 (wd n 3 : Int), .int .u64 0, .int .u64 0, .int .u64 0, .int .u64 0] := by
    show #[Value.int .u64 (wd n 0 : Int), .int .u64 (wd n 1 : Int), .int .u64 (wd n 2 : Int), .int .u64 (wd n 3 : Int), .int .u64 (wd n 4 : Int), .int .u64 (wd n 5 : Int), .int .u64 (wd n 6 : Int), .int .u64 (wd n 7 : Int)] = _
    rw [wd_big n 4 hn (by decide), wd_big n 5 hn (by decide), wd_big n 6 hn (by decide), wd_big n 7 hn (by decide)]
    rfl
  rw [e]
  unfold execOp
  simp only [ho]
  generalize a.eval = f at *
  simp [h0, h1, h2, h3, go_sem]
set_option maxHeartbeats 1000000 in
set_option maxRecDepth 100000 in
theorem restN_any (a b N : Nat) (ha : a < MM) (hN : a + MM * b = N) (hN2 : N < MM * MM) (w : World) : Calls Try.prog 16 #[.agg (ws a), .agg (ws b)] w (fun e w' => e = .returned (.agg (ws (N % LL))) ∧ Below w.heap.size w w') := by
  go_enter Try.func16, Try.ntmps16
  have hm0 := Mm.nil w
  refine wp_seq_k (fun K1 hK1 => ?_)
  refine wp_region_lit ?_
  refine lst (wanted_none rfl) (m_alloc (c := ws a) (T := 37) hm0 2 rfl (run_box rfl rfl) (fun g2 w3 (hm4 : Mm w w3 [(g2, ws a, 37)]) => ?_))
  simp only [List.setIfInBounds_toArray, List.set_cons_zero, List.set_cons_succ]
  refine lst (wanted_none rfl) (m_alloc (c := ws b) (T := 37) hm4 3 rfl (run_box rfl rfl) (fun g5 w6 (hm7 : Mm w w6 [(g2, ws a, 37), (g5, ws b, 37)]) => ?_))
  simp only [List.setIfInBounds_toArray, List.set_cons_zero, List.set_cons_succ]
  refine lst (wanted_none rfl) (m_alloc (c := ws 0) (T := 37) hm7 4 rfl (al_W rfl) (fun g8 w9 (hm10 : Mm w w9 [(g2, ws a, 37), (g5, ws b, 37), (g8, ws 0, 37)]) => ?_))
  simp only [List.setIfInBounds_toArray, List.set_cons_zero, List.set_cons_succ]
  refine wpList_nil ?_
  refine then_n (hK1 _ _ ?_)
  refine wp_seq_k (fun K11 hK11 => ?_)
  refine wp_region_lit ?_
  refine lst (wanted_none rfl) (m_alloc (c := ws 0) (T := 37) hm10 5 rfl (al_W rfl) (fun g12 w13 (hm14 : Mm w w13 [(g2, ws a, 37), (g5, ws b, 37), (g8, ws 0, 37), (g12, ws 0, 37)]) => ?_))
  simp only [List.setIfInBounds_toArray, List.set_cons_zero, List.set_cons_succ]
  refine wpList_nil ?_
  refine then_n (hK11 _ _ ?_)
  refine wp_seq_k (fun K15 hK15 => ?_)
  refine wp_seq_k (fun K16 hK16 => ?_)
  refine wp_region_lit ?_
  refine lst (wanted_none rfl) (w_value 6 (.int .i64 511) rfl (run_as rfl rfl) ?_)
  simp only [List.setIfInBounds_toArray, List.set_cons_zero, List.set_cons_succ]
  refine wpList_nil ?_
  have hm17 : Mm w w13 [(g2, ws a, 37), (g5, ws b, 37), (g8, ws 0, 37), (g12, ws (rs N 512), 37)] := by rw [show (ws (rs N 512) : Array Value) = ws 0 from by rw [rest_start N 512 rfl hN2]]; exact hm14
  refine then_n (hK16 _ _ ?_)
  refine wp_block ?_
  refine wp_loop_n (fun n' a' w' => ∃ (k : Nat) (z : Int) (u0 : Nat → Value), n' = k ∧ (k ≤ 512) ∧ (z = (k : Int) - 1) ∧ a' = ⟨#[.agg (ws a), .agg (ws b), .pointer (some ⟨g2, 0, none⟩), .pointer (some ⟨g5, 0, none⟩), .pointer (some ⟨g8, 0, none⟩), .pointer (some ⟨g12, 0, none⟩), .int .i64 (z), u0 0, u0 1, u0 2, u0 3, u0 4, u0 5, u0 6, u0 7, u0 8, u0 9, u0 10, u0 11, u0 12, u0 13, u0 14, u0 15, u0 16, u0 17, u0 18, u0 19, u0 20, u0 21, u0 22, u0 23, u0 24, u0 25, u0 26, u0 27, u0 28, u0 29, u0 30, undef], []⟩ ∧ Mm w w' [(g2, ws a, 37), (g5, ws b, 37), (g8, ws 0, 37), (g12, ws (rs N k), 37)]) ⟨512, 511, (fun qq => bif Nat.blt qq 24 then List.getD [undef, undef, undef, undef, undef, undef, undef, undef, undef, undef, undef, undef, undef, undef, undef, undef, undef, undef, undef, undef, undef, undef, undef, undef] qq undef else List.getD [undef, undef, undef, undef, undef, undef, undef] (qq - 24) undef), rfl, (by omega), (by decide), rfl, hm17⟩ ?_
  clear hm17
  rintro _ _ w18 ⟨k, z, u0, hn0, hk, hz, rfl, hm19⟩ R20 hR20
  refine wp_seq_k (fun K21 hK21 => ?_)
  refine wp_seq_k (fun K22 hK22 => ?_)
  refine wp_region_lit ?_
  refine lst (wanted_none rfl) (w_value 10 (.int .i64 (z)) rfl (run_mv rfl rfl) ?_)
  simp only [List.setIfInBounds_toArray, List.set_cons_zero, List.set_cons_succ]
  refine lst (wanted_none rfl) (w_value 11 (.bool (decide (((0 : Nat) : Int) ≤ z))) rfl (r_geqZ (z) (((0 : Nat) : Int)) rfl rfl rfl) ?_)
  simp only [List.setIfInBounds_toArray, List.set_cons_zero, List.set_cons_succ]
  refine wpList_nil ?_
  refine then_n (hK22 _ _ ?_)
  refine cond_d (((0 : Nat) : Int) ≤ z) rfl (fun hc23 => ?_) (fun hc23 => ?_)
  · obtain ⟨m, rfl⟩ : ∃ m, k = m + 1 := ⟨k - 1, by omega⟩
    obtain rfl : z = ((m : Nat) : Int) := by omega
    refine wp_skip ?_
    refine then_n (hK21 _ _ ?_)
    refine wp_seq_k (fun K24 hK24 => ?_)
    refine wp_block ?_
    refine wp_seq_k (fun K25 hK25 => ?_)
    refine wp_region_lit ?_
    refine lst (wanted_none rfl) (w_value 14 (.agg (ws a)) rfl (run_row rfl rfl (hm19.at 0 rfl) Try.underlying37 rfl (by rw [ws_sz]; exact info_w)) ?_)
    simp only [List.setIfInBounds_toArray, List.set_cons_zero, List.set_cons_succ]
    refine lst (wanted_none rfl) (m_alloc (c := ws 0) (T := 37) hm19 7 rfl (al_W rfl) (fun g26 w27 (hm28 : Mm w w27 [(g2, ws a, 37), (g5, ws b, 37), (g8, ws 0, 37), (g12, ws (rs N (m + 1)), 37), (g26, ws 0, 37)]) => ?_))
    simp only [List.setIfInBounds_toArray, List.set_cons_zero, List.set_cons_succ]
    refine lst (wanted_none rfl) (m_store 4 37 _ _ (ws a) (old := ws 0) hm28 rfl rfl rfl rfl rfl (by rw [ws_sz]; exact info_w) ((ws_sz _).trans (ws_sz _).symm) (ws_one _) (fun w29 (hm30 : Mm w w29 [(g2, ws a, 37), (g5, ws b, 37), (g8, ws 0, 37), (g12, ws (rs N (m + 1)), 37), (g26, ws a, 37)]) => ?_))
    refine wpList_nil ?_
    refine then_n (hK25 _ _ ?_)
    refine wp_seq_k (fun K31 hK31 => ?_)
    refine wp_seq_k (fun K32 hK32 => ?_)
    refine wp_region_lit ?_
    refine lst (wanted_none rfl) (w_value 15 (.int .i64 ((m : Nat) : Int)) rfl (run_mv rfl rfl) ?_)
    simp only [List.setIfInBounds_toArray, List.set_cons_zero, List.set_cons_succ]
    refine lst (wanted_none rfl) (w_value 16 (.bool (decide (256 ≤ m))) rfl (r_geq m 256 rfl rfl rfl) ?_)
    simp only [List.setIfInBounds_toArray, List.set_cons_zero, List.set_cons_succ]
    refine wpList_nil ?_
    refine then_n (hK32 _ _ ?_)
    refine cond_d (256 ≤ m) rfl (fun hc33 => ?_) (fun hc33 => ?_)
    · refine wp_region_lit ?_
      refine lst (wanted_none rfl) (w_value 17 (.agg (ws b)) rfl (run_row rfl rfl (hm30.at 1 rfl) Try.underlying37 rfl (by rw [ws_sz]; exact info_w)) ?_)
      simp only [List.setIfInBounds_toArray, List.set_cons_zero, List.set_cons_succ]
      refine lst (wanted_none rfl) (m_store 4 37 _ _ (ws b) (old := ws a) hm30 rfl rfl rfl rfl rfl (by rw [ws_sz]; exact info_w) ((ws_sz _).trans (ws_sz _).symm) (ws_one _) (fun w34 (hm35 : Mm w w34 [(g2, ws a, 37), (g5, ws b, 37), (g8, ws 0, 37), (g12, ws (rs N (m + 1)), 37), (g26, ws b, 37)]) => ?_))
      refine wpList_nil ?_
      refine then_n (hK31 _ _ ?_)
      refine wp_seq_k (fun K36 hK36 => ?_)
      have hm37 := hm35.drew
      refine wp_region_held_drew (S := fun w' => Sym.Blk w' g26 (ws b) 37) (by kernel_rfl) (hm35.at 4 rfl) (fun _ => ?_)
      generalize w34.drew = w38 at *
      refine Sym.take_at 1 19 (.int .i64 ((m : Nat) : Int)) rfl rfl (by kernel_rfl) (by kernel_rfl) (by kernel_rfl) (fun _ _ _ h => h) (wanted_none rfl) (fun _ hw => run_mv rfl rfl) (hm37.at 4 rfl) ?_
      simp only [List.setIfInBounds_toArray, List.set_cons_zero, List.set_cons_succ]
      refine Sym.take_at 2 20 (.int .i64 (((m % 256) : Nat) : Int)) rfl rfl (by kernel_rfl) (by kernel_rfl) (by kernel_rfl) (fun _ _ _ h => h) (wanted_none rfl) (fun _ hw => r_rem m 256 (show m < 9223372036854775808 from by omega) (by decide) rfl rfl rfl) (hm37.at 4 rfl) ?_
      simp only [List.setIfInBounds_toArray, List.set_cons_zero, List.set_cons_succ]
      refine Sym.take_at 3 21 (.int .i64 ((((m % 256) / 64) : Nat) : Int)) rfl rfl (by kernel_rfl) (by kernel_rfl) (by kernel_rfl) (fun _ _ _ h => h) (wanted_none rfl) (fun _ hw => r_quo (m % 256) 64 (show (m % 256) < 9223372036854775808 from by omega) (by decide) rfl rfl rfl) (hm37.at 4 rfl) ?_
      simp only [List.setIfInBounds_toArray, List.set_cons_zero, List.set_cons_succ]
      refine Sym.take_at 4 22 (.pointer (some ⟨g26, ((m % 256) / 64), none⟩)) rfl rfl (by kernel_rfl) (by kernel_rfl) (by kernel_rfl) (fun _ _ _ h => h) (wanted_none rfl) (fun _ hw => r_ix g26 ((m % 256) / 64) (by omega) Try.underlying37 one_u64 rfl rfl rfl) (hm37.at 4 rfl) ?_
      simp only [List.setIfInBounds_toArray, List.set_cons_zero, List.set_cons_succ]
      refine Sym.take_at 5 23 (.int .u64 (((wd b) ((m % 256) / 64) : Nat) : Int)) rfl rfl (by kernel_rfl) (by kernel_rfl) (by kernel_rfl) (fun _ _ _ h => h) (wanted_none rfl) (fun _ hw => r_cell (f := (wd b)) (n := 4) g26 ((m % 256) / 64) (by omega) hw Try.underlying35 rfl rfl) (hm37.at 4 rfl) ?_
      simp only [List.setIfInBounds_toArray, List.set_cons_zero, List.set_cons_succ]
      refine Sym.take_at 6 24 (.int .i64 ((m : Nat) : Int)) rfl rfl (by kernel_rfl) (by kernel_rfl) (by kernel_rfl) (fun _ _ _ h => h) (wanted_none rfl) (fun _ hw => run_mv rfl rfl) (hm37.at 4 rfl) ?_
      simp only [List.setIfInBounds_toArray, List.set_cons_zero, List.set_cons_succ]
      refine Sym.take_at 7 25 (.int .i64 (((m % 64) : Nat) : Int)) rfl rfl (by kernel_rfl) (by kernel_rfl) (by kernel_rfl) (fun _ _ _ h => h) (wanted_none rfl) (fun _ hw => r_rem m 64 (show m < 9223372036854775808 from by omega) (by decide) rfl rfl rfl) (hm37.at 4 rfl) ?_
      simp only [List.setIfInBounds_toArray, List.set_cons_zero, List.set_cons_succ]
      refine Sym.take_at 8 26 (.int .u64 (((((wd b) ((m % 256) / 64)) / 2 ^ (m % 64)) : Nat) : Int)) rfl rfl (by kernel_rfl) (by kernel_rfl) (by kernel_rfl) (fun _ _ _ h => h) (wanted_none rfl) (fun _ hw => r_shr ((wd b) ((m % 256) / 64)) (m % 64) (show m % 64 ≤ 64 from by omega) rfl rfl rfl) (hm37.at 4 rfl) ?_
      simp only [List.setIfInBounds_toArray, List.set_cons_zero, List.set_cons_succ]
      refine Sym.take_at 9 27 (.int .u64 (((bit N m) : Nat) : Int)) rfl rfl (by kernel_rfl) (by kernel_rfl) (by kernel_rfl) (fun _ _ _ h => h) (wanted_none rfl) (fun _ hw => r_andx (((wd b) ((m % 256) / 64)) / 2 ^ (m % 64)) 1 64 (bit N m) (by decide) (Nat.lt_of_le_of_lt (Nat.div_le_self _ _) (wd_lt _ _)) (by decide) (by first | exact and_lo a b m N (by omega) hN | exact and_hi a b m N ha (by omega) (by omega) hN) rfl rfl rfl) (hm37.at 4 rfl) ?_
      simp only [List.setIfInBounds_toArray, List.set_cons_zero, List.set_cons_succ]
      refine one_ready 0 (by kernel_rfl) ?_
      refine opd rfl (wanted_none rfl) (w_value 18 (.agg (ws (rs N (m + 1)))) rfl (run_row rfl rfl (hm37.at 3 rfl) Try.underlying37 rfl (by rw [ws_sz]; exact info_w)) ⟨hm37.at 4 rfl, ?_⟩)
      simp only [List.setIfInBounds_toArray, List.set_cons_zero, List.set_cons_succ]
      refine one_ready 10 (by kernel_rfl) ?_
      refine opd rfl (wanted_none rfl) (m_call hm37 28 (.agg (ws (2 * (rs N (m + 1)) + (bit N m)))) rfl (run_double rfl rfl rfl) (double_any (rs N (m + 1)) (bit N m) (bit_le _ _) _) (fun w39 hm40 => ?_))
      refine ⟨hm40.at 4 rfl, ?_⟩
      simp only [List.setIfInBounds_toArray, List.set_cons_zero, List.set_cons_succ]
      refine one_ready 11 (by kernel_rfl) ?_
      refine opd rfl (wanted_none rfl) (m_store 3 37 _ _ (ws (2 * (rs N (m + 1)) + (bit N m))) (old := ws (rs N (m + 1))) hm40 rfl rfl rfl rfl rfl (by rw [ws_sz]; exact info_w) ((ws_sz _).trans (ws_sz _).symm) (ws_one _) (fun w41 (hm42 : Mm w w41 [(g2, ws a, 37), (g5, ws b, 37), (g8, ws 0, 37), (g12, ws (2 * (rs N (m + 1)) + (bit N m)), 37), (g26, ws b, 37)]) => ?_))
      refine ⟨hm42.at 4 rfl, ?_⟩
      refine wpAnyH_done (by kernel_rfl) ?_ _
      refine then_n (hK36 _ _ ?_)
      refine wp_seq_k (fun K43 hK43 => ?_)
      refine wp_mono (Q := fun e a' w' => e = Exit.normal ∧ ∃ g50 : Nat, a' = ⟨#[.agg (ws a), .agg (ws b), .pointer (some ⟨g2, 0, none⟩), .pointer (some ⟨g5, 0, none⟩), .pointer (some ⟨g8, 0, none⟩), .pointer (some ⟨g12, 0, none⟩), .int .i64 ((m : Nat) : Int), .pointer (some ⟨g26, 0, none⟩), .pointer (some ⟨g50, 0, none⟩), .int .u64 (((bo (2 * (rs N (m + 1)) + (bit N m)) LL 4) : Nat) : Int), .int .i64 ((m : Nat) : Int), .bool (decide (((0 : Nat) : Int) ≤ ((m : Nat) : Int))), u0 5, u0 6, .agg (ws a), .int .i64 ((m : Nat) : Int), .bool (decide (256 ≤ m)), .agg (ws b), .agg (ws (rs N (m + 1))), .int .i64 ((m : Nat) : Int), .int .i64 (((m % 256) : Nat) : Int), .int .i64 ((((m % 256) / 64) : Nat) : Int), .pointer (some ⟨g26, ((m % 256) / 64), none⟩), .int .u64 (((wd b) ((m % 256) / 64) : Nat) : Int), .int .i64 ((m : Nat) : Int), .int .i64 (((m % 64) : Nat) : Int), .int .u64 (((((wd b) ((m % 256) / 64)) / 2 ^ (m % 64)) : Nat) : Int), .int .u64 (((bit N m) : Nat) : Int), .agg (ws (2 * (rs N (m + 1)) + (bit N m))), .tuple #[.agg (ws ((2 * (rs N (m + 1)) + (bit N m)) + MM - LL)), .int .u64 (((bo (2 * (rs N (m + 1)) + (bit N m)) LL 4) : Nat) : Int)], .agg (ws (2 * (rs N (m + 1)) + (bit N m))), .agg (ws LL), .tuple #[.agg (ws ((2 * (rs N (m + 1)) + (bit N m)) + MM - LL)), .int .u64 (((bo (2 * (rs N (m + 1)) + (bit N m)) LL 4) : Nat) : Int)], .agg (ws ((2 * (rs N (m + 1)) + (bit N m)) + MM - LL)), .int .u64 (((bo (2 * (rs N (m + 1)) + (bit N m)) LL 4) : Nat) : Int), u0 28, u0 29, u0 30, undef], []⟩ ∧ Mm w w' [(g2, ws a, 37), (g5, ws b, 37), (g8, ws 0, 37), (g12, ws (2 * (rs N (m + 1)) + (bit N m)), 37), (g26, ws b, 37), (g50, ws ((2 * (rs N (m + 1)) + (bit N m)) + MM - LL), 37)]) ?_ ?_
      · have hm44 := hm42.drew
        refine wp_region_held_drew (S := fun w' => Sym.Blk w' g12 (ws (2 * (rs N (m + 1)) + (bit N m))) 37) (by kernel_rfl) (hm42.at 3 rfl) (fun _ => ?_)
        generalize w41.drew = w45 at *
        refine Sym.take_at 0 30 (.agg (ws (2 * (rs N (m + 1)) + (bit N m)))) rfl rfl (by kernel_rfl) (by kernel_rfl) (by kernel_rfl) (fun _ _ _ h => nomatch h.1) (wanted_none rfl) (fun _ hw => run_row rfl rfl hw Try.underlying37 rfl (by rw [ws_sz]; exact info_w)) (hm44.at 3 rfl) ?_
        simp only [List.setIfInBounds_toArray, List.set_cons_zero, List.set_cons_succ]
        refine two_ready 1 6 (by kernel_rfl) ?_ ?_
        · refine opd rfl (wanted_none rfl) (m_call hm44 31 (.agg (ws LL)) rfl (run_order rfl) (order_any _) (fun w46 hm47 => ?_))
          refine ⟨hm47.at 3 rfl, ?_⟩
          simp only [List.setIfInBounds_toArray, List.set_cons_zero, List.set_cons_succ]
          refine two_ready 2 6 (by kernel_rfl) ?_ ?_
          · refine opd rfl (wanted_none rfl) (m_call hm47 32 (.tuple #[.agg (ws ((2 * (rs N (m + 1)) + (bit N m)) + MM - LL)), .int .u64 (((bo (2 * (rs N (m + 1)) + (bit N m)) LL 4) : Nat) : Int)]) rfl (run_minus rfl rfl rfl) (minus_any (2 * (rs N (m + 1)) + (bit N m)) LL (by decide) _) (fun w48 hm49 => ?_))
            refine ⟨hm49.at 3 rfl, ?_⟩
            simp only [List.setIfInBounds_toArray, List.set_cons_zero, List.set_cons_succ]
            refine Sym.take_at 3 29 (.tuple #[.agg (ws ((2 * (rs N (m + 1)) + (bit N m)) + MM - LL)), .int .u64 (((bo (2 * (rs N (m + 1)) + (bit N m)) LL 4) : Nat) : Int)]) rfl rfl (by kernel_rfl) (by kernel_rfl) (by kernel_rfl) (fun _ _ _ h => nomatch h.1) (wanted_none rfl) (fun _ hw => run_mv rfl rfl) (hm49.at 3 rfl) ?_
            simp only [List.setIfInBounds_toArray, List.set_cons_zero, List.set_cons_succ]
            refine Sym.take_at 4 33 (.agg (ws ((2 * (rs N (m + 1)) + (bit N m)) + MM - LL))) rfl rfl (by kernel_rfl) (by kernel_rfl) (by kernel_rfl) (fun _ _ _ h => nomatch h.1) (wanted_none rfl) (fun _ hw => run_ex rfl rfl rfl) (hm49.at 3 rfl) ?_
            simp only [List.setIfInBounds_toArray, List.set_cons_zero, List.set_cons_succ]
            refine Sym.take_at 5 34 (.int .u64 (((bo (2 * (rs N (m + 1)) + (bit N m)) LL 4) : Nat) : Int)) rfl rfl (by kernel_rfl) (by kernel_rfl) (by kernel_rfl) (fun _ _ _ h => nomatch h.1) (wanted_none rfl) (fun _ hw => run_ex rfl rfl rfl) (hm49.at 3 rfl) ?_
            simp only [List.setIfInBounds_toArray, List.set_cons_zero, List.set_cons_succ]
            refine one_ready 6 (by kernel_rfl) ?_
            refine opd rfl (wanted_none rfl) (m_alloc (c := ws 0) (T := 37) hm49 8 rfl (al_W rfl) (fun g50 w51 (hm52 : Mm w w51 [(g2, ws a, 37), (g5, ws b, 37), (g8, ws 0, 37), (g12, ws (2 * (rs N (m + 1)) + (bit N m)), 37), (g26, ws b, 37), (g50, ws 0, 37)]) => ?_))
            refine ⟨hm52.at 3 rfl, ?_⟩
            simp only [List.setIfInBounds_toArray, List.set_cons_zero, List.set_cons_succ]
            refine one_ready 7 (by kernel_rfl) ?_
            refine opd rfl (wanted_none rfl) (m_store 5 37 _ _ (ws ((2 * (rs N (m + 1)) + (bit N m)) + MM - LL)) (old := ws 0) hm52 rfl rfl rfl rfl rfl (by rw [ws_sz]; exact info_w) ((ws_sz _).trans (ws_sz _).symm) (ws_one _) (fun w53 (hm54 : Mm w w53 [(g2, ws a, 37), (g5, ws b, 37), (g8, ws 0, 37), (g12, ws (2 * (rs N (m + 1)) + (bit N m)), 37), (g26, ws b, 37), (g50, ws ((2 * (rs N (m + 1)) + (bit N m)) + MM - LL), 37)]) => ?_))
            refine ⟨hm54.at 3 rfl, ?_⟩
            refine one_ready 8 (by kernel_rfl) ?_
            refine opd rfl (wanted_none rfl) (w_value 9 (.int .u64 (((bo (2 * (rs N (m + 1)) + (bit N m)) LL 4) : Nat) : Int)) rfl (run_as rfl rfl) ⟨hm54.at 3 rfl, ?_⟩)
            simp only [List.setIfInBounds_toArray, List.set_cons_zero, List.set_cons_succ]
            refine wpAnyH_done (by kernel_rfl) ?_ _
            exact ⟨rfl, g50, rfl, hm54⟩
          · refine opd rfl (wanted_none rfl) (m_alloc (c := ws 0) (T := 37) hm47 8 rfl (al_W rfl) (fun g55 w56 (hm57 : Mm w w56 [(g2, ws a, 37), (g5, ws b, 37), (g8, ws 0, 37), (g12, ws (2 * (rs N (m + 1)) + (bit N m)), 37), (g26, ws b, 37), (g55, ws 0, 37)]) => ?_))
            refine ⟨hm57.at 3 rfl, ?_⟩
            simp only [List.setIfInBounds_toArray, List.set_cons_zero, List.set_cons_succ]
            refine one_ready 2 (by kernel_rfl) ?_
            refine opd rfl (wanted_none rfl) (m_call hm57 32 (.tuple #[.agg (ws ((2 * (rs N (m + 1)) + (bit N m)) + MM - LL)), .int .u64 (((bo (2 * (rs N (m + 1)) + (bit N m)) LL 4) : Nat) : Int)]) rfl (run_minus rfl rfl rfl) (minus_any (2 * (rs N (m + 1)) + (bit N m)) LL (by decide) _) (fun w58 hm59 => ?_))
            refine ⟨hm59.at 3 rfl, ?_⟩
            simp only [List.setIfInBounds_toArray, List.set_cons_zero, List.set_cons_succ]
            refine Sym.take_at 3 29 (.tuple #[.agg (ws ((2 * (rs N (m + 1)) + (bit N m)) + MM - LL)), .int .u64 (((bo (2 * (rs N (m + 1)) + (bit N m)) LL 4) : Nat) : Int)]) rfl rfl (by kernel_rfl) (by kernel_rfl) (by kernel_rfl) (fun _ _ _ h => nomatch h.1) (wanted_none rfl) (fun _ hw => run_mv rfl rfl) (hm59.at 3 rfl) ?_
            simp only [List.setIfInBounds_toArray, List.set_cons_zero, List.set_cons_succ]
            refine Sym.take_at 4 33 (.agg (ws ((2 * (rs N (m + 1)) + (bit N m)) + MM - LL))) rfl rfl (by kernel_rfl) (by kernel_rfl) (by kernel_rfl) (fun _ _ _ h => nomatch h.1) (wanted_none rfl) (fun _ hw => run_ex rfl rfl rfl) (hm59.at 3 rfl) ?_
            simp only [List.setIfInBounds_toArray, List.set_cons_zero, List.set_cons_succ]
            refine Sym.take_at 5 34 (.int .u64 (((bo (2 * (rs N (m + 1)) + (bit N m)) LL 4) : Nat) : Int)) rfl rfl (by kernel_rfl) (by kernel_rfl) (by kernel_rfl) (fun _ _ _ h => nomatch h.1) (wanted_none rfl) (fun _ hw => run_ex rfl rfl rfl) (hm59.at 3 rfl) ?_
            simp only [List.setIfInBounds_toArray, List.set_cons_zero, List.set_cons_succ]
            refine one_ready 7 (by kernel_rfl) ?_
            refine opd rfl (wanted_none rfl) (m_store 5 37 _ _ (ws ((2 * (rs N (m + 1)) + (bit N m)) + MM - LL)) (old := ws 0) hm59 rfl rfl rfl rfl rfl (by rw [ws_sz]; exact info_w) ((ws_sz _).trans (ws_sz _).symm) (ws_one _) (fun w60 (hm61 : Mm w w60 [(g2, ws a, 37), (g5, ws b, 37), (g8, ws 0, 37), (g12, ws (2 * (rs N (m + 1)) + (bit N m)), 37), (g26, ws b, 37), (g55, ws ((2 * (rs N (m + 1)) + (bit N m)) + MM - LL), 37)]) => ?_))
            refine ⟨hm61.at 3 rfl, ?_⟩
            refine one_ready 8 (by kernel_rfl) ?_
            refine opd rfl (wanted_none rfl) (w_value 9 (.int .u64 (((bo (2 * (rs N (m + 1)) + (bit N m)) LL 4) : Nat) : Int)) rfl (run_as rfl rfl) ⟨hm61.at 3 rfl, ?_⟩)
            simp only [List.setIfInBounds_toArray, List.set_cons_zero, List.set_cons_succ]
            refine wpAnyH_done (by kernel_rfl) ?_ _
            exact ⟨rfl, g55, rfl, hm61⟩
        · refine opd rfl (wanted_none rfl) (m_alloc (c := ws 0) (T := 37) hm44 8 rfl (al_W rfl) (fun g62 w63 (hm64 : Mm w w63 [(g2, ws a, 37), (g5, ws b, 37), (g8, ws 0, 37), (g12, ws (2 * (rs N (m + 1)) + (bit N m)), 37), (g26, ws b, 37), (g62, ws 0, 37)]) => ?_))
          refine ⟨hm64.at 3 rfl, ?_⟩
          simp only [List.setIfInBounds_toArray, List.set_cons_zero, List.set_cons_succ]
          refine one_ready 1 (by kernel_rfl) ?_
          refine opd rfl (wanted_none rfl) (m_call hm64 31 (.agg (ws LL)) rfl (run_order rfl) (order_any _) (fun w65 hm66 => ?_))
          refine ⟨hm66.at 3 rfl, ?_⟩
          simp only [List.setIfInBounds_toArray, List.set_cons_zero, List.set_cons_succ]
          refine one_ready 2 (by kernel_rfl) ?_
          refine opd rfl (wanted_none rfl) (m_call hm66 32 (.tuple #[.agg (ws ((2 * (rs N (m + 1)) + (bit N m)) + MM - LL)), .int .u64 (((bo (2 * (rs N (m + 1)) + (bit N m)) LL 4) : Nat) : Int)]) rfl (run_minus rfl rfl rfl) (minus_any (2 * (rs N (m + 1)) + (bit N m)) LL (by decide) _) (fun w67 hm68 => ?_))
          refine ⟨hm68.at 3 rfl, ?_⟩
          simp only [List.setIfInBounds_toArray, List.set_cons_zero, List.set_cons_succ]
          refine Sym.take_at 3 29 (.tuple #[.agg (ws ((2 * (rs N (m + 1)) + (bit N m)) + MM - LL)), .int .u64 (((bo (2 * (rs N (m + 1)) + (bit N m)) LL 4) : Nat) : Int)]) rfl rfl (by kernel_rfl) (by kernel_rfl) (by kernel_rfl) (fun _ _ _ h => nomatch h.1) (wanted_none rfl) (fun _ hw => run_mv rfl rfl) (hm68.at 3 rfl) ?_
          simp only [List.setIfInBounds_toArray, List.set_cons_zero, List.set_cons_succ]
          refine Sym.take_at 4 33 (.agg (ws ((2 * (rs N (m + 1)) + (bit N m)) + MM - LL))) rfl rfl (by kernel_rfl) (by kernel_rfl) (by kernel_rfl) (fun _ _ _ h => nomatch h.1) (wanted_none rfl) (fun _ hw => run_ex rfl rfl rfl) (hm68.at 3 rfl) ?_
          simp only [List.setIfInBounds_toArray, List.set_cons_zero, List.set_cons_succ]
          refine Sym.take_at 5 34 (.int .u64 (((bo (2 * (rs N (m + 1)) + (bit N m)) LL 4) : Nat) : Int)) rfl rfl (by kernel_rfl) (by kernel_rfl) (by kernel_rfl) (fun _ _ _ h => nomatch h.1) (wanted_none rfl) (fun _ hw => run_ex rfl rfl rfl) (hm68.at 3 rfl) ?_
          simp only [List.setIfInBounds_toArray, List.set_cons_zero, List.set_cons_succ]
          refine one_ready 7 (by kernel_rfl) ?_
          refine opd rfl (wanted_none rfl) (m_store 5 37 _ _ (ws ((2 * (rs N (m + 1)) + (bit N m)) + MM - LL)) (old := ws 0) hm68 rfl rfl rfl rfl rfl (by rw [ws_sz]; exact info_w) ((ws_sz _).trans (ws_sz _).symm) (ws_one _) (fun w69 (hm70 : Mm w w69 [(g2, ws a, 37), (g5, ws b, 37), (g8, ws 0, 37), (g12, ws (2 * (rs N (m + 1)) + (bit N m)), 37), (g26, ws b, 37), (g62, ws ((2 * (rs N (m + 1)) + (bit N m)) + MM - LL), 37)]) => ?_))
          refine ⟨hm70.at 3 rfl, ?_⟩
          refine one_ready 8 (by kernel_rfl) ?_
          refine opd rfl (wanted_none rfl) (w_value 9 (.int .u64 (((bo (2 * (rs N (m + 1)) + (bit N m)) LL 4) : Nat) : Int)) rfl (run_as rfl rfl) ⟨hm70.at 3 rfl, ?_⟩)
          simp only [List.setIfInBounds_toArray, List.set_cons_zero, List.set_cons_succ]
          refine wpAnyH_done (by kernel_rfl) ?_ _
          exact ⟨rfl, g62, rfl, hm70⟩
      clear hm42
      rintro _ _ w71 ⟨rfl, g50, rfl, hm72⟩
      refine then_n (hK43 _ _ ?_)
      refine wp_seq_k (fun K73 hK73 => ?_)
      refine wp_region_lit ?_
      refine lst (wanted_none rfl) (w_value 35 (.int .u64 (((bo (2 * (rs N (m + 1)) + (bit N m)) LL 4) : Nat) : Int)) rfl (run_mv rfl rfl) ?_)
      simp only [List.setIfInBounds_toArray, List.set_cons_zero, List.set_cons_succ]
      refine lst (wanted_none rfl) (w_value 36 (.bool (decide ((bo (2 * (rs N (m + 1)) + (bit N m)) LL 4) = 0))) rfl (r_eql (bo (2 * (rs N (m + 1)) + (bit N m)) LL 4) 0 rfl rfl rfl) ?_)
      simp only [List.setIfInBounds_toArray, List.set_cons_zero, List.set_cons_succ]
      refine wpList_nil ?_
      refine then_n (hK73 _ _ ?_)
      refine cond_d ((bo (2 * (rs N (m + 1)) + (bit N m)) LL 4) = 0) rfl (fun hc74 => ?_) (fun hc74 => ?_)
      · refine wp_region_lit ?_
        refine lst (wanted_none rfl) (w_value 37 (.agg (ws ((2 * (rs N (m + 1)) + (bit N m)) + MM - LL))) rfl (run_row rfl rfl (hm72.at 5 rfl) Try.underlying37 rfl (by rw [ws_sz]; exact info_w)) ?_)
        simp only [List.setIfInBounds_toArray, List.set_cons_zero, List.set_cons_succ]
        refine lst (wanted_none rfl) (m_store 3 37 _ _ (ws ((2 * (rs N (m + 1)) + (bit N m)) + MM - LL)) (old := ws (2 * (rs N (m + 1)) + (bit N m))) hm72 rfl rfl rfl rfl rfl (by rw [ws_sz]; exact info_w) ((ws_sz _).trans (ws_sz _).symm) (ws_one _) (fun w75 (hm76 : Mm w w75 [(g2, ws a, 37), (g5, ws b, 37), (g8, ws 0, 37), (g12, ws ((2 * (rs N (m + 1)) + (bit N m)) + MM - LL), 37), (g26, ws b, 37), (g50, ws ((2 * (rs N (m + 1)) + (bit N m)) + MM - LL), 37)]) => ?_))
        refine wpList_nil ?_
        have hm77 : Mm w w75 [(g2, ws a, 37), (g5, ws b, 37), (g8, ws 0, 37), (g12, ws (rs N m), 37), (g26, ws b, 37), (g50, ws ((2 * (rs N (m + 1)) + (bit N m)) + MM - LL), 37)] := by rw [show (ws (rs N m) : Array Value) = ws ((2 * (rs N (m + 1)) + (bit N m)) + MM - LL) from rest_ge N m hc74]; exact hm76
        refine blk_n ?_
        refine then_n (hK24 _ _ ?_)
        refine wp_region_lit ?_
        refine lst (wanted_none rfl) (w_value 12 (.int .i64 ((m : Nat) : Int)) rfl (run_mv rfl rfl) ?_)
        simp only [List.setIfInBounds_toArray, List.set_cons_zero, List.set_cons_succ]
        refine lst (wanted_none rfl) (w_value 13 (.int .i64 (((m : Nat) : Int) - 1)) rfl (r_subZ ((m : Nat) : Int) ((1 : Nat) : Int) _ (IntWalk.i64_in _ (by omega)) rfl rfl rfl) ?_)
        simp only [List.setIfInBounds_toArray, List.set_cons_zero, List.set_cons_succ]
        refine lst (wanted_none rfl) (w_value 6 (.int .i64 (((m : Nat) : Int) - 1)) rfl (run_as rfl rfl) ?_)
        simp only [List.setIfInBounds_toArray, List.set_cons_zero, List.set_cons_succ]
        refine wpList_nil ?_
        have hm78 : Mm w w75 [(g2, ws a, 37), (g5, ws b, 37), (g8, ws 0, 37), (g12, ws (rs N m), 37)] := Mm.pre (m := [(g26, ws b, 37), (g50, ws ((2 * (rs N (m + 1)) + (bit N m)) + MM - LL), 37)]) hm77
        refine then_n (hR20 _ _ _ ⟨m, _, (fun qq => bif Nat.blt qq 24 then List.getD [.pointer (some ⟨g26, 0, none⟩), .pointer (some ⟨g50, 0, none⟩), .int .u64 (((bo (2 * (rs N (m + 1)) + (bit N m)) LL 4) : Nat) : Int), .int .i64 ((m : Nat) : Int), .bool (decide (((0 : Nat) : Int) ≤ ((m : Nat) : Int))), .int .i64 ((m : Nat) : Int), .int .i64 (((m : Nat) : Int) - 1), .agg (ws a), .int .i64 ((m : Nat) : Int), .bool (decide (256 ≤ m)), .agg (ws b), .agg (ws (rs N (m + 1))), .int .i64 ((m : Nat) : Int), .int .i64 (((m % 256) : Nat) : Int), .int .i64 ((((m % 256) / 64) : Nat) : Int), .pointer (some ⟨g26, ((m % 256) / 64), none⟩), .int .u64 (((wd b) ((m % 256) / 64) : Nat) : Int), .int .i64 ((m : Nat) : Int), .int .i64 (((m % 64) : Nat) : Int), .int .u64 (((((wd b) ((m % 256) / 64)) / 2 ^ (m % 64)) : Nat) : Int), .int .u64 (((bit N m) : Nat) : Int), .agg (ws (2 * (rs N (m + 1)) + (bit N m))), .tuple #[.agg (ws ((2 * (rs N (m + 1)) + (bit N m)) + MM - LL)), .int .u64 (((bo (2 * (rs N (m + 1)) + (bit N m)) LL 4) : Nat) : Int)], .agg (ws (2 * (rs N (m + 1)) + (bit N m)))] qq undef else List.getD [.agg (ws LL), .tuple #[.agg (ws ((2 * (rs N (m + 1)) + (bit N m)) + MM - LL)), .int .u64 (((bo (2 * (rs N (m + 1)) + (bit N m)) LL 4) : Nat) : Int)], .agg (ws ((2 * (rs N (m + 1)) + (bit N m)) + MM - LL)), .int .u64 (((bo (2 * (rs N (m + 1)) + (bit N m)) LL 4) : Nat) : Int), .int .u64 (((bo (2 * (rs N (m + 1)) + (bit N m)) LL 4) : Nat) : Int), .bool (decide ((bo (2 * (rs N (m + 1)) + (bit N m)) LL 4) = 0)), .agg (ws ((2 * (rs N (m + 1)) + (bit N m)) + MM - LL))] (qq - 24) undef), rfl, (by omega), rfl, rfl, hm78⟩ ?_)
        omega
      · have hm79 : Mm w w71 [(g2, ws a, 37), (g5, ws b, 37), (g8, ws 0, 37), (g12, ws (rs N m), 37), (g26, ws b, 37), (g50, ws ((2 * (rs N (m + 1)) + (bit N m)) + MM - LL), 37)] := by rw [show (ws (rs N m) : Array Value) = ws (2 * (rs N (m + 1)) + (bit N m)) from rest_lt N m hc74]; exact hm72
        refine wp_skip ?_
        refine blk_n ?_
        refine then_n (hK24 _ _ ?_)
        refine wp_region_lit ?_
        refine lst (wanted_none rfl) (w_value 12 (.int .i64 ((m : Nat) : Int)) rfl (run_mv rfl rfl) ?_)
        simp only [List.setIfInBounds_toArray, List.set_cons_zero, List.set_cons_succ]
        refine lst (wanted_none rfl) (w_value 13 (.int .i64 (((m : Nat) : Int) - 1)) rfl (r_subZ ((m : Nat) : Int) ((1 : Nat) : Int) _ (IntWalk.i64_in _ (by omega)) rfl rfl rfl) ?_)
        simp only [List.setIfInBounds_toArray, List.set_cons_zero, List.set_cons_succ]
        refine lst (wanted_none rfl) (w_value 6 (.int .i64 (((m : Nat) : Int) - 1)) rfl (run_as rfl rfl) ?_)
        simp only [List.setIfInBounds_toArray, List.set_cons_zero, List.set_cons_succ]
        refine wpList_nil ?_
        have hm80 : Mm w w71 [(g2, ws a, 37), (g5, ws b, 37), (g8, ws 0, 37), (g12, ws (rs N m), 37)] := Mm.pre (m := [(g26, ws b, 37), (g50, ws ((2 * (rs N (m + 1)) + (bit N m)) + MM - LL), 37)]) hm79
        refine then_n (hR20 _ _ _ ⟨m, _, (fun qq => bif Nat.blt qq 24 then List.getD [.pointer (some ⟨g26, 0, none⟩), .pointer (some ⟨g50, 0, none⟩), .int .u64 (((bo (2 * (rs N (m + 1)) + (bit N m)) LL 4) : Nat) : Int), .int .i64 ((m : Nat) : Int), .bool (decide (((0 : Nat) : Int) ≤ ((m : Nat) : Int))), .int .i64 ((m : Nat) : Int), .int .i64 (((m : Nat) : Int) - 1), .agg (ws a), .int .i64 ((m : Nat) : Int), .bool (decide (256 ≤ m)), .agg (ws b), .agg (ws (rs N (m + 1))), .int .i64 ((m : Nat) : Int), .int .i64 (((m % 256) : Nat) : Int), .int .i64 ((((m % 256) / 64) : Nat) : Int), .pointer (some ⟨g26, ((m % 256) / 64), none⟩), .int .u64 (((wd b) ((m % 256) / 64) : Nat) : Int), .int .i64 ((m : Nat) : Int), .int .i64 (((m % 64) : Nat) : Int), .int .u64 (((((wd b) ((m % 256) / 64)) / 2 ^ (m % 64)) : Nat) : Int), .int .u64 (((bit N m) : Nat) : Int), .agg (ws (2 * (rs N (m + 1)) + (bit N m))), .tuple #[.agg (ws ((2 * (rs N (m + 1)) + (bit N m)) + MM - LL)), .int .u64 (((bo (2 * (rs N (m + 1)) + (bit N m)) LL 4) : Nat) : Int)], .agg (ws (2 * (rs N (m + 1)) + (bit N m)))] qq undef else List.getD [.agg (ws LL), .tuple #[.agg (ws ((2 * (rs N (m + 1)) + (bit N m)) + MM - LL)), .int .u64 (((bo (2 * (rs N (m + 1)) + (bit N m)) LL 4) : Nat) : Int)], .agg (ws ((2 * (rs N (m + 1)) + (bit N m)) + MM - LL)), .int .u64 (((bo (2 * (rs N (m + 1)) + (bit N m)) LL 4) : Nat) : Int), .int .u64 (((bo (2 * (rs N (m + 1)) + (bit N m)) LL 4) : Nat) : Int), .bool (decide ((bo (2 * (rs N (m + 1)) + (bit N m)) LL 4) = 0)), u0 30] (qq - 24) undef), rfl, (by omega), rfl, rfl, hm80⟩ ?_)
        omega
    · refine wp_skip ?_
      refine then_n (hK31 _ _ ?_)
      refine wp_seq_k (fun K81 hK81 => ?_)
      have hm82 := hm30.drew
      refine wp_region_held_drew (S := fun w' => Sym.Blk w' g26 (ws a) 37) (by kernel_rfl) (hm30.at 4 rfl) (fun _ => ?_)
      generalize w29.drew = w83 at *
      refine Sym.take_at 1 19 (.int .i64 ((m : Nat) : Int)) rfl rfl (by kernel_rfl) (by kernel_rfl) (by kernel_rfl) (fun _ _ _ h => h) (wanted_none rfl) (fun _ hw => run_mv rfl rfl) (hm82.at 4 rfl) ?_
      simp only [List.setIfInBounds_toArray, List.set_cons_zero, List.set_cons_succ]
      refine Sym.take_at 2 20 (.int .i64 (((m % 256) : Nat) : Int)) rfl rfl (by kernel_rfl) (by kernel_rfl) (by kernel_rfl) (fun _ _ _ h => h) (wanted_none rfl) (fun _ hw => r_rem m 256 (show m < 9223372036854775808 from by omega) (by decide) rfl rfl rfl) (hm82.at 4 rfl) ?_
      simp only [List.setIfInBounds_toArray, List.set_cons_zero, List.set_cons_succ]
      refine Sym.take_at 3 21 (.int .i64 ((((m % 256) / 64) : Nat) : Int)) rfl rfl (by kernel_rfl) (by kernel_rfl) (by kernel_rfl) (fun _ _ _ h => h) (wanted_none rfl) (fun _ hw => r_quo (m % 256) 64 (show (m % 256) < 9223372036854775808 from by omega) (by decide) rfl rfl rfl) (hm82.at 4 rfl) ?_
      simp only [List.setIfInBounds_toArray, List.set_cons_zero, List.set_cons_succ]
      refine Sym.take_at 4 22 (.pointer (some ⟨g26, ((m % 256) / 64), none⟩)) rfl rfl (by kernel_rfl) (by kernel_rfl) (by kernel_rfl) (fun _ _ _ h => h) (wanted_none rfl) (fun _ hw => r_ix g26 ((m % 256) / 64) (by omega) Try.underlying37 one_u64 rfl rfl rfl) (hm82.at 4 rfl) ?_
      simp only [List.setIfInBounds_toArray, List.set_cons_zero, List.set_cons_succ]
      refine Sym.take_at 5 23 (.int .u64 (((wd a) ((m % 256) / 64) : Nat) : Int)) rfl rfl (by kernel_rfl) (by kernel_rfl) (by kernel_rfl) (fun _ _ _ h => h) (wanted_none rfl) (fun _ hw => r_cell (f := (wd a)) (n := 4) g26 ((m % 256) / 64) (by omega) hw Try.underlying35 rfl rfl) (hm82.at 4 rfl) ?_
      simp only [List.setIfInBounds_toArray, List.set_cons_zero, List.set_cons_succ]
      refine Sym.take_at 6 24 (.int .i64 ((m : Nat) : Int)) rfl rfl (by kernel_rfl) (by kernel_rfl) (by kernel_rfl) (fun _ _ _ h => h) (wanted_none rfl) (fun _ hw => run_mv rfl rfl) (hm82.at 4 rfl) ?_
      simp only [List.setIfInBounds_toArray, List.set_cons_zero, List.set_cons_succ]
      refine Sym.take_at 7 25 (.int .i64 (((m % 64) : Nat) : Int)) rfl rfl (by kernel_rfl) (by kernel_rfl) (by kernel_rfl) (fun _ _ _ h => h) (wanted_none rfl) (fun _ hw => r_rem m 64 (show m < 9223372036854775808 from by omega) (by decide) rfl rfl rfl) (hm82.at 4 rfl) ?_
      simp only [List.setIfInBounds_toArray, List.set_cons_zero, List.set_cons_succ]
      refine Sym.take_at 8 26 (.int .u64 (((((wd a) ((m % 256) / 64)) / 2 ^ (m % 64)) : Nat) : Int)) rfl rfl (by kernel_rfl) (by kernel_rfl) (by kernel_rfl) (fun _ _ _ h => h) (wanted_none rfl) (fun _ hw => r_shr ((wd a) ((m % 256) / 64)) (m % 64) (show m % 64 ≤ 64 from by omega) rfl rfl rfl) (hm82.at 4 rfl) ?_
      simp only [List.setIfInBounds_toArray, List.set_cons_zero, List.set_cons_succ]
      refine Sym.take_at 9 27 (.int .u64 (((bit N m) : Nat) : Int)) rfl rfl (by kernel_rfl) (by kernel_rfl) (by kernel_rfl) (fun _ _ _ h => h) (wanted_none rfl) (fun _ hw => r_andx (((wd a) ((m % 256) / 64)) / 2 ^ (m % 64)) 1 64 (bit N m) (by decide) (Nat.lt_of_le_of_lt (Nat.div_le_self _ _) (wd_lt _ _)) (by decide) (by first | exact and_lo a b m N (by omega) hN | exact and_hi a b m N ha (by omega) (by omega) hN) rfl rfl rfl) (hm82.at 4 rfl) ?_
      simp only [List.setIfInBounds_toArray, List.set_cons_zero, List.set_cons_succ]
      refine one_ready 0 (by kernel_rfl) ?_
      refine opd rfl (wanted_none rfl) (w_value 18 (.agg (ws (rs N (m + 1)))) rfl (run_row rfl rfl (hm82.at 3 rfl) Try.underlying37 rfl (by rw [ws_sz]; exact info_w)) ⟨hm82.at 4 rfl, ?_⟩)
      simp only [List.setIfInBounds_toArray, List.set_cons_zero, List.set_cons_succ]
      refine one_ready 10 (by kernel_rfl) ?_
      refine opd rfl (wanted_none rfl) (m_call hm82 28 (.agg (ws (2 * (rs N (m + 1)) + (bit N m)))) rfl (run_double rfl rfl rfl) (double_any (rs N (m + 1)) (bit N m) (bit_le _ _) _) (fun w84 hm85 => ?_))
      refine ⟨hm85.at 4 rfl, ?_⟩
      simp only [List.setIfInBounds_toArray, List.set_cons_zero, List.set_cons_succ]
      refine one_ready 11 (by kernel_rfl) ?_
      refine opd rfl (wanted_none rfl) (m_store 3 37 _ _ (ws (2 * (rs N (m + 1)) + (bit N m))) (old := ws (rs N (m + 1))) hm85 rfl rfl rfl rfl rfl (by rw [ws_sz]; exact info_w) ((ws_sz _).trans (ws_sz _).symm) (ws_one _) (fun w86 (hm87 : Mm w w86 [(g2, ws a, 37), (g5, ws b, 37), (g8, ws 0, 37), (g12, ws (2 * (rs N (m + 1)) + (bit N m)), 37), (g26, ws a, 37)]) => ?_))
      refine ⟨hm87.at 4 rfl, ?_⟩
      refine wpAnyH_done (by kernel_rfl) ?_ _
      refine then_n (hK81 _ _ ?_)
      refine wp_seq_k (fun K88 hK88 => ?_)
      refine wp_mono (Q := fun e a' w' => e = Exit.normal ∧ ∃ g95 : Nat, a' = ⟨#[.agg (ws a), .agg (ws b), .pointer (some ⟨g2, 0, none⟩), .pointer (some ⟨g5, 0, none⟩), .pointer (some ⟨g8, 0, none⟩), .pointer (some ⟨g12, 0, none⟩), .int .i64 ((m : Nat) : Int), .pointer (some ⟨g26, 0, none⟩), .pointer (some ⟨g95, 0, none⟩), .int .u64 (((bo (2 * (rs N (m + 1)) + (bit N m)) LL 4) : Nat) : Int), .int .i64 ((m : Nat) : Int), .bool (decide (((0 : Nat) : Int) ≤ ((m : Nat) : Int))), u0 5, u0 6, .agg (ws a), .int .i64 ((m : Nat) : Int), .bool (decide (256 ≤ m)), u0 10, .agg (ws (rs N (m + 1))), .int .i64 ((m : Nat) : Int), .int .i64 (((m % 256) : Nat) : Int), .int .i64 ((((m % 256) / 64) : Nat) : Int), .pointer (some ⟨g26, ((m % 256) / 64), none⟩), .int .u64 (((wd a) ((m % 256) / 64) : Nat) : Int), .int .i64 ((m : Nat) : Int), .int .i64 (((m % 64) : Nat) : Int), .int .u64 (((((wd a) ((m % 256) / 64)) / 2 ^ (m % 64)) : Nat) : Int), .int .u64 (((bit N m) : Nat) : Int), .agg (ws (2 * (rs N (m + 1)) + (bit N m))), .tuple #[.agg (ws ((2 * (rs N (m + 1)) + (bit N m)) + MM - LL)), .int .u64 (((bo (2 * (rs N (m + 1)) + (bit N m)) LL 4) : Nat) : Int)], .agg (ws (2 * (rs N (m + 1)) + (bit N m))), .agg (ws LL), .tuple #[.agg (ws ((2 * (rs N (m + 1)) + (bit N m)) + MM - LL)), .int .u64 (((bo (2 * (rs N (m + 1)) + (bit N m)) LL 4) : Nat) : Int)], .agg (ws ((2 * (rs N (m + 1)) + (bit N m)) + MM - LL)), .int .u64 (((bo (2 * (rs N (m + 1)) + (bit N m)) LL 4) : Nat) : Int), u0 28, u0 29, u0 30, undef], []⟩ ∧ Mm w w' [(g2, ws a, 37), (g5, ws b, 37), (g8, ws 0, 37), (g12, ws (2 * (rs N (m + 1)) + (bit N m)), 37), (g26, ws a, 37), (g95, ws ((2 * (rs N (m + 1)) + (bit N m)) + MM - LL), 37)]) ?_ ?_
      · have hm89 := hm87.drew
        refine wp_region_held_drew (S := fun w' => Sym.Blk w' g12 (ws (2 * (rs N (m + 1)) + (bit N m))) 37) (by kernel_rfl) (hm87.at 3 rfl) (fun _ => ?_)
        generalize w86.drew = w90 at *
        refine Sym.take_at 0 30 (.agg (ws (2 * (rs N (m + 1)) + (bit N m)))) rfl rfl (by kernel_rfl) (by kernel_rfl) (by kernel_rfl) (fun _ _ _ h => nomatch h.1) (wanted_none rfl) (fun _ hw => run_row rfl rfl hw Try.underlying37 rfl (by rw [ws_sz]; exact info_w)) (hm89.at 3 rfl) ?_
        simp only [List.setIfInBounds_toArray, List.set_cons_zero, List.set_cons_succ]
        refine two_ready 1 6 (by kernel_rfl) ?_ ?_
        · refine opd rfl (wanted_none rfl) (m_call hm89 31 (.agg (ws LL)) rfl (run_order rfl) (order_any _) (fun w91 hm92 => ?_))
          refine ⟨hm92.at 3 rfl, ?_⟩
          simp only [List.setIfInBounds_toArray, List.set_cons_zero, List.set_cons_succ]
          refine two_ready 2 6 (by kernel_rfl) ?_ ?_
          · refine opd rfl (wanted_none rfl) (m_call hm92 32 (.tuple #[.agg (ws ((2 * (rs N (m + 1)) + (bit N m)) + MM - LL)), .int .u64 (((bo (2 * (rs N (m + 1)) + (bit N m)) LL 4) : Nat) : Int)]) rfl (run_minus rfl rfl rfl) (minus_any (2 * (rs N (m + 1)) + (bit N m)) LL (by decide) _) (fun w93 hm94 => ?_))
            refine ⟨hm94.at 3 rfl, ?_⟩
            simp only [List.setIfInBounds_toArray, List.set_cons_zero, List.set_cons_succ]
            refine Sym.take_at 3 29 (.tuple #[.agg (ws ((2 * (rs N (m + 1)) + (bit N m)) + MM - LL)), .int .u64 (((bo (2 * (rs N (m + 1)) + (bit N m)) LL 4) : Nat) : Int)]) rfl rfl (by kernel_rfl) (by kernel_rfl) (by kernel_rfl) (fun _ _ _ h => nomatch h.1) (wanted_none rfl) (fun _ hw => run_mv rfl rfl) (hm94.at 3 rfl) ?_
            simp only [List.setIfInBounds_toArray, List.set_cons_zero, List.set_cons_succ]
            refine Sym.take_at 4 33 (.agg (ws ((2 * (rs N (m + 1)) + (bit N m)) + MM - LL))) rfl rfl (by kernel_rfl) (by kernel_rfl) (by kernel_rfl) (fun _ _ _ h => nomatch h.1) (wanted_none rfl) (fun _ hw => run_ex rfl rfl rfl) (hm94.at 3 rfl) ?_
            simp only [List.setIfInBounds_toArray, List.set_cons_zero, List.set_cons_succ]
            refine Sym.take_at 5 34 (.int .u64 (((bo (2 * (rs N (m + 1)) + (bit N m)) LL 4) : Nat) : Int)) rfl rfl (by kernel_rfl) (by kernel_rfl) (by kernel_rfl) (fun _ _ _ h => nomatch h.1) (wanted_none rfl) (fun _ hw => run_ex rfl rfl rfl) (hm94.at 3 rfl) ?_
            simp only [List.setIfInBounds_toArray, List.set_cons_zero, List.set_cons_succ]
            refine one_ready 6 (by kernel_rfl) ?_
            refine opd rfl (wanted_none rfl) (m_alloc (c := ws 0) (T := 37) hm94 8 rfl (al_W rfl) (fun g95 w96 (hm97 : Mm w w96 [(g2, ws a, 37), (g5, ws b, 37), (g8, ws 0, 37), (g12, ws (2 * (rs N (m + 1)) + (bit N m)), 37), (g26, ws a, 37), (g95, ws 0, 37)]) => ?_))
            refine ⟨hm97.at 3 rfl, ?_⟩
            simp only [List.setIfInBounds_toArray, List.set_cons_zero, List.set_cons_succ]
            refine one_ready 7 (by kernel_rfl) ?_
            refine opd rfl (wanted_none rfl) (m_store 5 37 _ _ (ws ((2 * (rs N (m + 1)) + (bit N m)) + MM - LL)) (old := ws 0) hm97 rfl rfl rfl rfl rfl (by rw [ws_sz]; exact info_w) ((ws_sz _).trans (ws_sz _).symm) (ws_one _) (fun w98 (hm99 : Mm w w98 [(g2, ws a, 37), (g5, ws b, 37), (g8, ws 0, 37), (g12, ws (2 * (rs N (m + 1)) + (bit N m)), 37), (g26, ws a, 37), (g95, ws ((2 * (rs N (m + 1)) + (bit N m)) + MM - LL), 37)]) => ?_))
            refine ⟨hm99.at 3 rfl, ?_⟩
            refine one_ready 8 (by kernel_rfl) ?_
            refine opd rfl (wanted_none rfl) (w_value 9 (.int .u64 (((bo (2 * (rs N (m + 1)) + (bit N m)) LL 4) : Nat) : Int)) rfl (run_as rfl rfl) ⟨hm99.at 3 rfl, ?_⟩)
            simp only [List.setIfInBounds_toArray, List.set_cons_zero, List.set_cons_succ]
            refine wpAnyH_done (by kernel_rfl) ?_ _
            exact ⟨rfl, g95, rfl, hm99⟩
          · refine opd rfl (wanted_none rfl) (m_alloc (c := ws 0) (T := 37) hm92 8 rfl (al_W rfl) (fun g100 w101 (hm102 : Mm w w101 [(g2, ws a, 37), (g5, ws b, 37), (g8, ws 0, 37), (g12, ws (2 * (rs N (m + 1)) + (bit N m)), 37), (g26, ws a, 37), (g100, ws 0, 37)]) => ?_))
            refine ⟨hm102.at 3 rfl, ?_⟩
            simp only [List.setIfInBounds_toArray, List.set_cons_zero, List.set_cons_succ]
            refine one_ready 2 (by kernel_rfl) ?_
            refine opd rfl (wanted_none rfl) (m_call hm102 32 (.tuple #[.agg (ws ((2 * (rs N (m + 1)) + (bit N m)) + MM - LL)), .int .u64 (((bo (2 * (rs N (m + 1)) + (bit N m)) LL 4) : Nat) : Int)]) rfl (run_minus rfl rfl rfl) (minus_any (2 * (rs N (m + 1)) + (bit N m)) LL (by decide) _) (fun w103 hm104 => ?_))
            refine ⟨hm104.at 3 rfl, ?_⟩
            simp only [List.setIfInBounds_toArray, List.set_cons_zero, List.set_cons_succ]
            refine Sym.take_at 3 29 (.tuple #[.agg (ws ((2 * (rs N (m + 1)) + (bit N m)) + MM - LL)), .int .u64 (((bo (2 * (rs N (m + 1)) + (bit N m)) LL 4) : Nat) : Int)]) rfl rfl (by kernel_rfl) (by kernel_rfl) (by kernel_rfl) (fun _ _ _ h => nomatch h.1) (wanted_none rfl) (fun _ hw => run_mv rfl rfl) (hm104.at 3 rfl) ?_
            simp only [List.setIfInBounds_toArray, List.set_cons_zero, List.set_cons_succ]
            refine Sym.take_at 4 33 (.agg (ws ((2 * (rs N (m + 1)) + (bit N m)) + MM - LL))) rfl rfl (by kernel_rfl) (by kernel_rfl) (by kernel_rfl) (fun _ _ _ h => nomatch h.1) (wanted_none rfl) (fun _ hw => run_ex rfl rfl rfl) (hm104.at 3 rfl) ?_
            simp only [List.setIfInBounds_toArray, List.set_cons_zero, List.set_cons_succ]
            refine Sym.take_at 5 34 (.int .u64 (((bo (2 * (rs N (m + 1)) + (bit N m)) LL 4) : Nat) : Int)) rfl rfl (by kernel_rfl) (by kernel_rfl) (by kernel_rfl) (fun _ _ _ h => nomatch h.1) (wanted_none rfl) (fun _ hw => run_ex rfl rfl rfl) (hm104.at 3 rfl) ?_
            simp only [List.setIfInBounds_toArray, List.set_cons_zero, List.set_cons_succ]
            refine one_ready 7 (by kernel_rfl) ?_
            refine opd rfl (wanted_none rfl) (m_store 5 37 _ _ (ws ((2 * (rs N (m + 1)) + (bit N m)) + MM - LL)) (old := ws 0) hm104 rfl rfl rfl rfl rfl (by rw [ws_sz]; exact info_w) ((ws_sz _).trans (ws_sz _).symm) (ws_one _) (fun w105 (hm106 : Mm w w105 [(g2, ws a, 37), (g5, ws b, 37), (g8, ws 0, 37), (g12, ws (2 * (rs N (m + 1)) + (bit N m)), 37), (g26, ws a, 37), (g100, ws ((2 * (rs N (m + 1)) + (bit N m)) + MM - LL), 37)]) => ?_))
            refine ⟨hm106.at 3 rfl, ?_⟩
            refine one_ready 8 (by kernel_rfl) ?_
            refine opd rfl (wanted_none rfl) (w_value 9 (.int .u64 (((bo (2 * (rs N (m + 1)) + (bit N m)) LL 4) : Nat) : Int)) rfl (run_as rfl rfl) ⟨hm106.at 3 rfl, ?_⟩)
            simp only [List.setIfInBounds_toArray, List.set_cons_zero, List.set_cons_succ]
            refine wpAnyH_done (by kernel_rfl) ?_ _
            exact ⟨rfl, g100, rfl, hm106⟩
        · refine opd rfl (wanted_none rfl) (m_alloc (c := ws 0) (T := 37) hm89 8 rfl (al_W rfl) (fun g107 w108 (hm109 : Mm w w108 [(g2, ws a, 37), (g5, ws b, 37), (g8, ws 0, 37), (g12, ws (2 * (rs N (m + 1)) + (bit N m)), 37), (g26, ws a, 37), (g107, ws 0, 37)]) => ?_))
          refine ⟨hm109.at 3 rfl, ?_⟩
          simp only [List.setIfInBounds_toArray, List.set_cons_zero, List.set_cons_succ]
          refine one_ready 1 (by kernel_rfl) ?_
          refine opd rfl (wanted_none rfl) (m_call hm109 31 (.agg (ws LL)) rfl (run_order rfl) (order_any _) (fun w110 hm111 => ?_))
          refine ⟨hm111.at 3 rfl, ?_⟩
          simp only [List.setIfInBounds_toArray, List.set_cons_zero, List.set_cons_succ]
          refine one_ready 2 (by kernel_rfl) ?_
          refine opd rfl (wanted_none rfl) (m_call hm111 32 (.tuple #[.agg (ws ((2 * (rs N (m + 1)) + (bit N m)) + MM - LL)), .int .u64 (((bo (2 * (rs N (m + 1)) + (bit N m)) LL 4) : Nat) : Int)]) rfl (run_minus rfl rfl rfl) (minus_any (2 * (rs N (m + 1)) + (bit N m)) LL (by decide) _) (fun w112 hm113 => ?_))
          refine ⟨hm113.at 3 rfl, ?_⟩
          simp only [List.setIfInBounds_toArray, List.set_cons_zero, List.set_cons_succ]
          refine Sym.take_at 3 29 (.tuple #[.agg (ws ((2 * (rs N (m + 1)) + (bit N m)) + MM - LL)), .int .u64 (((bo (2 * (rs N (m + 1)) + (bit N m)) LL 4) : Nat) : Int)]) rfl rfl (by kernel_rfl) (by kernel_rfl) (by kernel_rfl) (fun _ _ _ h => nomatch h.1) (wanted_none rfl) (fun _ hw => run_mv rfl rfl) (hm113.at 3 rfl) ?_
          simp only [List.setIfInBounds_toArray, List.set_cons_zero, List.set_cons_succ]
          refine Sym.take_at 4 33 (.agg (ws ((2 * (rs N (m + 1)) + (bit N m)) + MM - LL))) rfl rfl (by kernel_rfl) (by kernel_rfl) (by kernel_rfl) (fun _ _ _ h => nomatch h.1) (wanted_none rfl) (fun _ hw => run_ex rfl rfl rfl) (hm113.at 3 rfl) ?_
          simp only [List.setIfInBounds_toArray, List.set_cons_zero, List.set_cons_succ]
          refine Sym.take_at 5 34 (.int .u64 (((bo (2 * (rs N (m + 1)) + (bit N m)) LL 4) : Nat) : Int)) rfl rfl (by kernel_rfl) (by kernel_rfl) (by kernel_rfl) (fun _ _ _ h => nomatch h.1) (wanted_none rfl) (fun _ hw => run_ex rfl rfl rfl) (hm113.at 3 rfl) ?_
          simp only [List.setIfInBounds_toArray, List.set_cons_zero, List.set_cons_succ]
          refine one_ready 7 (by kernel_rfl) ?_
          refine opd rfl (wanted_none rfl) (m_store 5 37 _ _ (ws ((2 * (rs N (m + 1)) + (bit N m)) + MM - LL)) (old := ws 0) hm113 rfl rfl rfl rfl rfl (by rw [ws_sz]; exact info_w) ((ws_sz _).trans (ws_sz _).symm) (ws_one _) (fun w114 (hm115 : Mm w w114 [(g2, ws a, 37), (g5, ws b, 37), (g8, ws 0, 37), (g12, ws (2 * (rs N (m + 1)) + (bit N m)), 37), (g26, ws a, 37), (g107, ws ((2 * (rs N (m + 1)) + (bit N m)) + MM - LL), 37)]) => ?_))
          refine ⟨hm115.at 3 rfl, ?_⟩
          refine one_ready 8 (by kernel_rfl) ?_
          refine opd rfl (wanted_none rfl) (w_value 9 (.int .u64 (((bo (2 * (rs N (m + 1)) + (bit N m)) LL 4) : Nat) : Int)) rfl (run_as rfl rfl) ⟨hm115.at 3 rfl, ?_⟩)
          simp only [List.setIfInBounds_toArray, List.set_cons_zero, List.set_cons_succ]
          refine wpAnyH_done (by kernel_rfl) ?_ _
          exact ⟨rfl, g107, rfl, hm115⟩
      clear hm87
      rintro _ _ w116 ⟨rfl, g95, rfl, hm117⟩
      refine then_n (hK88 _ _ ?_)
      refine wp_seq_k (fun K118 hK118 => ?_)
      refine wp_region_lit ?_
      refine lst (wanted_none rfl) (w_value 35 (.int .u64 (((bo (2 * (rs N (m + 1)) + (bit N m)) LL 4) : Nat) : Int)) rfl (run_mv rfl rfl) ?_)
      simp only [List.setIfInBounds_toArray, List.set_cons_zero, List.set_cons_succ]
      refine lst (wanted_none rfl) (w_value 36 (.bool (decide ((bo (2 * (rs N (m + 1)) + (bit N m)) LL 4) = 0))) rfl (r_eql (bo (2 * (rs N (m + 1)) + (bit N m)) LL 4) 0 rfl rfl rfl) ?_)
      simp only [List.setIfInBounds_toArray, List.set_cons_zero, List.set_cons_succ]
      refine wpList_nil ?_
      refine then_n (hK118 _ _ ?_)
      refine cond_d ((bo (2 * (rs N (m + 1)) + (bit N m)) LL 4) = 0) rfl (fun hc119 => ?_) (fun hc119 => ?_)
      · refine wp_region_lit ?_
        refine lst (wanted_none rfl) (w_value 37 (.agg (ws ((2 * (rs N (m + 1)) + (bit N m)) + MM - LL))) rfl (run_row rfl rfl (hm117.at 5 rfl) Try.underlying37 rfl (by rw [ws_sz]; exact info_w)) ?_)
        simp only [List.setIfInBounds_toArray, List.set_cons_zero, List.set_cons_succ]
        refine lst (wanted_none rfl) (m_store 3 37 _ _ (ws ((2 * (rs N (m + 1)) + (bit N m)) + MM - LL)) (old := ws (2 * (rs N (m + 1)) + (bit N m))) hm117 rfl rfl rfl rfl rfl (by rw [ws_sz]; exact info_w) ((ws_sz _).trans (ws_sz _).symm) (ws_one _) (fun w120 (hm121 : Mm w w120 [(g2, ws a, 37), (g5, ws b, 37), (g8, ws 0, 37), (g12, ws ((2 * (rs N (m + 1)) + (bit N m)) + MM - LL), 37), (g26, ws a, 37), (g95, ws ((2 * (rs N (m + 1)) + (bit N m)) + MM - LL), 37)]) => ?_))
        refine wpList_nil ?_
        have hm122 : Mm w w120 [(g2, ws a, 37), (g5, ws b, 37), (g8, ws 0, 37), (g12, ws (rs N m), 37), (g26, ws a, 37), (g95, ws ((2 * (rs N (m + 1)) + (bit N m)) + MM - LL), 37)] := by rw [show (ws (rs N m) : Array Value) = ws ((2 * (rs N (m + 1)) + (bit N m)) + MM - LL) from rest_ge N m hc119]; exact hm121
        refine blk_n ?_
        refine then_n (hK24 _ _ ?_)
        refine wp_region_lit ?_
        refine lst (wanted_none rfl) (w_value 12 (.int .i64 ((m : Nat) : Int)) rfl (run_mv rfl rfl) ?_)
        simp only [List.setIfInBounds_toArray, List.set_cons_zero, List.set_cons_succ]
        refine lst (wanted_none rfl) (w_value 13 (.int .i64 (((m : Nat) : Int) - 1)) rfl (r_subZ ((m : Nat) : Int) ((1 : Nat) : Int) _ (IntWalk.i64_in _ (by omega)) rfl rfl rfl) ?_)
        simp only [List.setIfInBounds_toArray, List.set_cons_zero, List.set_cons_succ]
        refine lst (wanted_none rfl) (w_value 6 (.int .i64 (((m : Nat) : Int) - 1)) rfl (run_as rfl rfl) ?_)
        simp only [List.setIfInBounds_toArray, List.set_cons_zero, List.set_cons_succ]
        refine wpList_nil ?_
        have hm123 : Mm w w120 [(g2, ws a, 37), (g5, ws b, 37), (g8, ws 0, 37), (g12, ws (rs N m), 37)] := Mm.pre (m := [(g26, ws a, 37), (g95, ws ((2 * (rs N (m + 1)) + (bit N m)) + MM - LL), 37)]) hm122
        refine then_n (hR20 _ _ _ ⟨m, _, (fun qq => bif Nat.blt qq 24 then List.getD [.pointer (some ⟨g26, 0, none⟩), .pointer (some ⟨g95, 0, none⟩), .int .u64 (((bo (2 * (rs N (m + 1)) + (bit N m)) LL 4) : Nat) : Int), .int .i64 ((m : Nat) : Int), .bool (decide (((0 : Nat) : Int) ≤ ((m : Nat) : Int))), .int .i64 ((m : Nat) : Int), .int .i64 (((m : Nat) : Int) - 1), .agg (ws a), .int .i64 ((m : Nat) : Int), .bool (decide (256 ≤ m)), u0 10, .agg (ws (rs N (m + 1))), .int .i64 ((m : Nat) : Int), .int .i64 (((m % 256) : Nat) : Int), .int .i64 ((((m % 256) / 64) : Nat) : Int), .pointer (some ⟨g26, ((m % 256) / 64), none⟩), .int .u64 (((wd a) ((m % 256) / 64) : Nat) : Int), .int .i64 ((m : Nat) : Int), .int .i64 (((m % 64) : Nat) : Int), .int .u64 (((((wd a) ((m % 256) / 64)) / 2 ^ (m % 64)) : Nat) : Int), .int .u64 (((bit N m) : Nat) : Int), .agg (ws (2 * (rs N (m + 1)) + (bit N m))), .tuple #[.agg (ws ((2 * (rs N (m + 1)) + (bit N m)) + MM - LL)), .int .u64 (((bo (2 * (rs N (m + 1)) + (bit N m)) LL 4) : Nat) : Int)], .agg (ws (2 * (rs N (m + 1)) + (bit N m)))] qq undef else List.getD [.agg (ws LL), .tuple #[.agg (ws ((2 * (rs N (m + 1)) + (bit N m)) + MM - LL)), .int .u64 (((bo (2 * (rs N (m + 1)) + (bit N m)) LL 4) : Nat) : Int)], .agg (ws ((2 * (rs N (m + 1)) + (bit N m)) + MM - LL)), .int .u64 (((bo (2 * (rs N (m + 1)) + (bit N m)) LL 4) : Nat) : Int), .int .u64 (((bo (2 * (rs N (m + 1)) + (bit N m)) LL 4) : Nat) : Int), .bool (decide ((bo (2 * (rs N (m + 1)) + (bit N m)) LL 4) = 0)), .agg (ws ((2 * (rs N (m + 1)) + (bit N m)) + MM - LL))] (qq - 24) undef), rfl, (by omega), rfl, rfl, hm123⟩ ?_)
        omega
      · have hm124 : Mm w w116 [(g2, ws a, 37), (g5, ws b, 37), (g8, ws 0, 37), (g12, ws (rs N m), 37), (g26, ws a, 37), (g95, ws ((2 * (rs N (m + 1)) + (bit N m)) + MM - LL), 37)] := by rw [show (ws (rs N m) : Array Value) = ws (2 * (rs N (m + 1)) + (bit N m)) from rest_lt N m hc119]; exact hm117
        refine wp_skip ?_
        refine blk_n ?_
        refine then_n (hK24 _ _ ?_)
        refine wp_region_lit ?_
        refine lst (wanted_none rfl) (w_value 12 (.int .i64 ((m : Nat) : Int)) rfl (run_mv rfl rfl) ?_)
        simp only [List.setIfInBounds_toArray, List.set_cons_zero, List.set_cons_succ]
        refine lst (wanted_none rfl) (w_value 13 (.int .i64 (((m : Nat) : Int) - 1)) rfl (r_subZ ((m : Nat) : Int) ((1 : Nat) : Int) _ (IntWalk.i64_in _ (by omega)) rfl rfl rfl) ?_)
        simp only [List.setIfInBounds_toArray, List.set_cons_zero, List.set_cons_succ]
        refine lst (wanted_none rfl) (w_value 6 (.int .i64 (((m : Nat) : Int) - 1)) rfl (run_as rfl rfl) ?_)
        simp only [List.setIfInBounds_toArray, List.set_cons_zero, List.set_cons_succ]
        refine wpList_nil ?_
        have hm125 : Mm w w116 [(g2, ws a, 37), (g5, ws b, 37), (g8, ws 0, 37), (g12, ws (rs N m), 37)] := Mm.pre (m := [(g26, ws a, 37), (g95, ws ((2 * (rs N (m + 1)) + (bit N m)) + MM - LL), 37)]) hm124
        refine then_n (hR20 _ _ _ ⟨m, _, (fun qq => bif Nat.blt qq 24 then List.getD [.pointer (some ⟨g26, 0, none⟩), .pointer (some ⟨g95, 0, none⟩), .int .u64 (((bo (2 * (rs N (m + 1)) + (bit N m)) LL 4) : Nat) : Int), .int .i64 ((m : Nat) : Int), .bool (decide (((0 : Nat) : Int) ≤ ((m : Nat) : Int))), .int .i64 ((m : Nat) : Int), .int .i64 (((m : Nat) : Int) - 1), .agg (ws a), .int .i64 ((m : Nat) : Int), .bool (decide (256 ≤ m)), u0 10, .agg (ws (rs N (m + 1))), .int .i64 ((m : Nat) : Int), .int .i64 (((m % 256) : Nat) : Int), .int .i64 ((((m % 256) / 64) : Nat) : Int), .pointer (some ⟨g26, ((m % 256) / 64), none⟩), .int .u64 (((wd a) ((m % 256) / 64) : Nat) : Int), .int .i64 ((m : Nat) : Int), .int .i64 (((m % 64) : Nat) : Int), .int .u64 (((((wd a) ((m % 256) / 64)) / 2 ^ (m % 64)) : Nat) : Int), .int .u64 (((bit N m) : Nat) : Int), .agg (ws (2 * (rs N (m + 1)) + (bit N m))), .tuple #[.agg (ws ((2 * (rs N (m + 1)) + (bit N m)) + MM - LL)), .int .u64 (((bo (2 * (rs N (m + 1)) + (bit N m)) LL 4) : Nat) : Int)], .agg (ws (2 * (rs N (m + 1)) + (bit N m)))] qq undef else List.getD [.agg (ws LL), .tuple #[.agg (ws ((2 * (rs N (m + 1)) + (bit N m)) + MM - LL)), .int .u64 (((bo (2 * (rs N (m + 1)) + (bit N m)) LL 4) : Nat) : Int)], .agg (ws ((2 * (rs N (m + 1)) + (bit N m)) + MM - LL)), .int .u64 (((bo (2 * (rs N (m + 1)) + (bit N m)) LL 4) : Nat) : Int), .int .u64 (((bo (2 * (rs N (m + 1)) + (bit N m)) LL 4) : Nat) : Int), .bool (decide ((bo (2 * (rs N (m + 1)) + (bit N m)) LL 4) = 0)), u0 30] (qq - 24) undef), rfl, (by omega), rfl, rfl, hm125⟩ ?_)
        omega
  · obtain rfl : k = 0 := by omega
    have hm126 : Mm w w18 [(g2, ws a, 37), (g5, ws b, 37), (g8, ws 0, 37), (g12, ws (N % LL), 37)] := by rw [show (ws (N % LL) : Array Value) = ws (rs N 0) from by rw [rs_end]]; exact hm19
    refine wp_exit ?_
    refine then_x ?_
    refine then_x ?_
    refine blk_x ?_
    refine then_n (hK15 _ _ ?_)
    refine wp_seq_k (fun K127 hK127 => ?_)
    refine wp_region_lit ?_
    refine lst (wanted_none rfl) (w_value 38 (.agg (ws (N % LL))) rfl (run_row rfl rfl (hm126.at 3 rfl) Try.underlying37 rfl (by rw [ws_sz]; exact info_w)) ?_)
    simp only [List.setIfInBounds_toArray, List.set_cons_zero, List.set_cons_succ]
    refine lst (wanted_none rfl) (m_store 2 37 _ _ (ws (N % LL)) (old := ws 0) hm126 rfl rfl rfl rfl rfl (by rw [ws_sz]; exact info_w) ((ws_sz _).trans (ws_sz _).symm) (ws_one _) (fun w128 (hm129 : Mm w w128 [(g2, ws a, 37), (g5, ws b, 37), (g8, ws (N % LL), 37), (g12, ws (N % LL), 37)]) => ?_))
    refine wpList_nil ?_
    refine then_n (hK127 _ _ ?_)
    refine wp_ret ?_
    exact ⟨rfl, .agg (ws (N % LL)), res_c rfl rfl (hm129.at 2 rfl) Try.underlying37 rfl (by rw [ws_sz]; exact info_w), ⟨rfl, hm129.below⟩⟩
theorem rest_any (a b : Nat) (ha : a < MM) (hb : b < MM) (w : World) : Calls Try.prog 16 #[.agg (ws a), .agg (ws b)] w (fun e w' => e = .returned (.agg (ws ((a + MM * b) % LL))) ∧ Below w.heap.size w w') :=
  restN_any a b _ ha rfl (by
    have h1 : MM * b ≤ MM * (MM - 1) := Nat.mul_le_mul_left _ (by omega)
    have h2 : MM * (MM - 1) + MM ≤ MM * MM := by decide
    omega) w
end Go.Proofs.Ytcemcnbhnedaaaa.Fld
