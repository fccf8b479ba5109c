/- Layer 4, the document's answers: what is left. -/
import Derived.Test.YtcemcnbhnedaaaaScE
namespace Go.Proofs.Ytcemcnbhnedaaaa.Fld
open Go.RowKit Go.Shelf
open Go.Proofs.Ytcemcnbhnedaaaa.Num (val up val_congr val_add val_lt val_up val_digits val_word)
open Go.Proofs.Ytcemcnbhnedaaaa.Arr Go.Proofs.Ytcemcnbhnedaaaa.Sym Go.Proofs.Ytcemcnbhnedaaaa.Sx

theorem mixw_here (n x k : Nat) : mixw n x k k = wd x k := by unfold mixw; rw [if_neg (by omega)]
set_option maxHeartbeats 4000000 in
set_option maxRecDepth 100000 in
theorem rrest_any (N : Nat) (hN : N < MM * MM) (w : World) : Calls Try.prog 19 #[.agg (w8 N)] w (fun e w' => e = .returned (.agg (ws (N % LL))) ∧ Below w.heap.size w w') := by
  go_enter Try.func19, Try.ntmps19
  have hm0 := Mm.nil w
  refine wp_seq_k (fun K1 hK1 => ?_)
  refine wp_region_lit ?_
  refine lst (wanted_none rfl) (m_alloc (c := w8 N) (T := 40) hm0 1 rfl (run_box rfl rfl) (fun g2 w3 (hm4 : Mm w w3 [(g2, w8 N, 40)]) => ?_))
  simp only [List.setIfInBounds_toArray, List.set_cons_zero, List.set_cons_succ]
  refine lst (wanted_none rfl) (m_alloc (c := ws 0) (T := 36) hm4 2 rfl (al_X rfl) (fun g5 w6 (hm7 : Mm w w6 [(g2, w8 N, 40), (g5, ws 0, 36)]) => ?_))
  simp only [List.setIfInBounds_toArray, List.set_cons_zero, List.set_cons_succ]
  refine wpList_nil ?_
  refine then_n (hK1 _ _ ?_)
  refine wp_seq_k (fun K8 hK8 => ?_)
  refine wp_region_lit ?_
  refine lst (wanted_none rfl) (m_alloc (c := ws 0) (T := 36) hm7 3 rfl (al_X rfl) (fun g9 w10 (hm11 : Mm w w10 [(g2, w8 N, 40), (g5, ws 0, 36), (g9, ws 0, 36)]) => ?_))
  simp only [List.setIfInBounds_toArray, List.set_cons_zero, List.set_cons_succ]
  refine wpList_nil ?_
  refine then_n (hK8 _ _ ?_)
  refine wp_seq_k (fun K12 hK12 => ?_)
  refine wp_seq_k (fun K13 hK13 => ?_)
  refine wp_region_lit ?_
  refine lst (wanted_none rfl) (w_value 4 (.int .i64 511) rfl (run_as rfl rfl) ?_)
  simp only [List.setIfInBounds_toArray, List.set_cons_zero, List.set_cons_succ]
  refine wpList_nil ?_
  have hm14 : Mm w w10 [(g2, w8 N, 40), (g5, ws 0, 36), (g9, ws (rs N 512), 36)] := by rw [show (ws (rs N 512) : Array Value) = ws 0 from by rw [rest_start N 512 rfl hN]]; exact hm11
  refine then_n (hK13 _ _ ?_)
  refine wp_block ?_
  refine wp_loop_n (fun n' a' w' => ∃ (k : Nat) (z : Int) (u0 : Nat → Value), n' = k ∧ (k ≤ 512) ∧ (z = (k : Int) - 1) ∧ a' = ⟨#[.agg (w8 N), .pointer (some ⟨g2, 0, none⟩), .pointer (some ⟨g5, 0, none⟩), .pointer (some ⟨g9, 0, none⟩), .int .i64 (z), u0 0, u0 1, u0 2, u0 3, u0 4, u0 5, u0 6, u0 7, u0 8, u0 9, u0 10, u0 11, u0 12, u0 13, u0 14, u0 15, u0 16, u0 17, u0 18, u0 19, u0 20, u0 21, u0 22, u0 23, u0 24, u0 25, u0 26, u0 27, u0 28, u0 29, u0 30, u0 31, u0 32, u0 33, u0 34, u0 35, u0 36, u0 37, u0 38, u0 39, u0 40, u0 41, u0 42, u0 43, u0 44, u0 45, u0 46, u0 47, u0 48, u0 49, u0 50, u0 51, u0 52, u0 53, u0 54, u0 55, u0 56, u0 57, u0 58, u0 59, u0 60, u0 61, undef], []⟩ ∧ Mm w w' [(g2, w8 N, 40), (g5, ws 0, 36), (g9, ws (rs N k), 36)]) ⟨512, 511, (fun qq => bif Nat.blt qq 24 then List.getD [undef, undef, undef, undef, undef, undef, undef, undef, undef, undef, undef, undef, undef, undef, undef, undef, undef, undef, undef, undef, undef, undef, undef, undef] qq undef else bif Nat.blt qq 48 then List.getD [undef, undef, undef, undef, undef, undef, undef, undef, undef, undef, undef, undef, undef, undef, undef, undef, undef, undef, undef, undef, undef, undef, undef, undef] (qq - 24) undef else List.getD [undef, undef, undef, undef, undef, undef, undef, undef, undef, undef, undef, undef, undef, undef] (qq - 48) undef), rfl, (by omega), (by decide), rfl, hm14⟩ ?_
  clear hm14
  rintro _ _ w15 ⟨k, z, u0, hn0, hk, hz, rfl, hm16⟩ R17 hR17
  refine wp_seq_k (fun K18 hK18 => ?_)
  refine wp_seq_k (fun K19 hK19 => ?_)
  refine wp_region_lit ?_
  refine lst (wanted_none rfl) (w_value 10 (.int .i64 (z)) rfl (run_mv rfl rfl) ?_)
  simp only [List.setIfInBounds_toArray, List.set_cons_zero, List.set_cons_succ]
  refine lst (wanted_none rfl) (w_value 11 (.bool (decide (((0 : Nat) : Int) ≤ z))) rfl (r_geqZ (z) (((0 : Nat) : Int)) rfl rfl rfl) ?_)
  simp only [List.setIfInBounds_toArray, List.set_cons_zero, List.set_cons_succ]
  refine wpList_nil ?_
  refine then_n (hK19 _ _ ?_)
  refine cond_d (((0 : Nat) : Int) ≤ z) rfl (fun hc20 => ?_) (fun hc20 => ?_)
  · obtain ⟨m, rfl⟩ : ∃ m, k = m + 1 := ⟨k - 1, by omega⟩
    obtain rfl : z = ((m : Nat) : Int) := by omega
    refine wp_skip ?_
    refine then_n (hK18 _ _ ?_)
    refine wp_seq_k (fun K21 hK21 => ?_)
    refine wp_block ?_
    refine wp_seq_k (fun K22 hK22 => ?_)
    refine wp_region_lit ?_
    refine lst (wanted_none rfl) (w_value 14 (.int .i64 ((m : Nat) : Int)) rfl (run_mv rfl rfl) ?_)
    simp only [List.setIfInBounds_toArray, List.set_cons_zero, List.set_cons_succ]
    refine lst (wanted_none rfl) (w_value 15 (.int .i64 (((m / 64) : Nat) : Int)) rfl (r_quo m 64 (show m < 9223372036854775808 from by omega) (by decide) rfl rfl rfl) ?_)
    simp only [List.setIfInBounds_toArray, List.set_cons_zero, List.set_cons_succ]
    refine lst (wanted_none rfl) (w_value 16 (.pointer (some ⟨g2, (m / 64), none⟩)) rfl (r_ix g2 (m / 64) (by omega) Try.underlying40 one_u64 rfl rfl rfl) ?_)
    simp only [List.setIfInBounds_toArray, List.set_cons_zero, List.set_cons_succ]
    refine lst (wanted_none rfl) (w_value 17 (.int .u64 (((wd N) (m / 64) : Nat) : Int)) rfl (r_cell (f := (wd N)) (n := 8) g2 (m / 64) (by omega) (hm16.at 0 rfl) Try.underlying35 rfl rfl) ?_)
    simp only [List.setIfInBounds_toArray, List.set_cons_zero, List.set_cons_succ]
    refine lst (wanted_none rfl) (w_value 18 (.int .i64 ((m : Nat) : Int)) rfl (run_mv rfl rfl) ?_)
    simp only [List.setIfInBounds_toArray, List.set_cons_zero, List.set_cons_succ]
    refine lst (wanted_none rfl) (w_value 19 (.int .u64 ((m : Nat) : Int)) rfl (r_conv (k' := .u64) m m some_i64 Try.underlying41 (wrap_nat (show m < 18446744073709551616 from by omega)) rfl rfl) ?_)
    simp only [List.setIfInBounds_toArray, List.set_cons_zero, List.set_cons_succ]
    refine lst (wanted_none rfl) (w_value 20 (.int .u64 (((m % 64) : Nat) : Int)) rfl (r_rem m 64 (show m < 18446744073709551616 from by omega) (by decide) rfl rfl rfl) ?_)
    simp only [List.setIfInBounds_toArray, List.set_cons_zero, List.set_cons_succ]
    refine lst (wanted_none rfl) (w_value 21 (.int .u64 (((((wd N) (m / 64)) / 2 ^ (m % 64)) : Nat) : Int)) rfl (r_shr ((wd N) (m / 64)) (m % 64) (show m % 64 ≤ 64 from by omega) rfl rfl rfl) ?_)
    simp only [List.setIfInBounds_toArray, List.set_cons_zero, List.set_cons_succ]
    refine lst (wanted_none rfl) (w_value 22 (.int .u64 (((bit N m) : Nat) : Int)) rfl (r_andx (((wd N) (m / 64)) / 2 ^ (m % 64)) 1 64 (bit N m) (by decide) (Nat.lt_of_le_of_lt (Nat.div_le_self _ _) (wd_lt _ _)) (by decide) (and_w N m) rfl rfl rfl) ?_)
    simp only [List.setIfInBounds_toArray, List.set_cons_zero, List.set_cons_succ]
    refine lst (wanted_none rfl) (w_value 5 (.int .u64 (((bit N m) : Nat) : Int)) rfl (run_as rfl rfl) ?_)
    simp only [List.setIfInBounds_toArray, List.set_cons_zero, List.set_cons_succ]
    refine wpList_nil ?_
    refine then_n (hK22 _ _ ?_)
    refine wp_seq_k (fun K23 hK23 => ?_)
    refine wp_seq_k (fun K24 hK24 => ?_)
    refine wp_region_lit ?_
    refine lst (wanted_none rfl) (w_value 6 (.int .i64 3) rfl (run_as rfl rfl) ?_)
    simp only [List.setIfInBounds_toArray, List.set_cons_zero, List.set_cons_succ]
    refine wpList_nil ?_
    have hm25 : Mm w w15 [(g2, w8 N, 40), (g5, ws 0, 36), (g9, rowOf .u64 (shw (rs N (m + 1)) (bit N m) 3) 4, 36)] := by rw [show (rowOf .u64 (shw (rs N (m + 1)) (bit N m) 3) 4 : Array Value) = ws (rs N (m + 1)) from shw_start _ _]; exact hm16
    refine then_n (hK24 _ _ ?_)
    refine wp_block ?_
    refine wp_loop_n (fun n' a' w' => ∃ (q : Nat) (u1 : Nat → Value), n' = q ∧ (q ≤ 3) ∧ a' = ⟨#[.agg (w8 N), .pointer (some ⟨g2, 0, none⟩), .pointer (some ⟨g5, 0, none⟩), .pointer (some ⟨g9, 0, none⟩), .int .i64 ((m : Nat) : Int), .int .u64 (((bit N m) : Nat) : Int), .int .i64 ((q : Nat) : Int), u0 2, u0 3, u0 4, .int .i64 ((m : Nat) : Int), .bool (decide (((0 : Nat) : Int) ≤ ((m : Nat) : Int))), u0 7, u0 8, .int .i64 ((m : Nat) : Int), .int .i64 (((m / 64) : Nat) : Int), .pointer (some ⟨g2, (m / 64), none⟩), .int .u64 (((wd N) (m / 64) : Nat) : Int), .int .i64 ((m : Nat) : Int), .int .u64 ((m : Nat) : Int), .int .u64 (((m % 64) : Nat) : Int), .int .u64 (((((wd N) (m / 64)) / 2 ^ (m % 64)) : Nat) : Int), .int .u64 (((bit N m) : Nat) : Int), u1 0, u1 1, u1 2, u1 3, u1 4, u1 5, u1 6, u1 7, u1 8, u1 9, u1 10, u1 11, u1 12, u1 13, u1 14, u1 15, u0 34, u0 35, u0 36, u0 37, u0 38, u0 39, u0 40, u0 41, u0 42, u0 43, u0 44, u0 45, u0 46, u0 47, u0 48, u0 49, u0 50, u0 51, u0 52, u0 53, u0 54, u0 55, u0 56, u0 57, u0 58, u0 59, u0 60, u0 61, undef], []⟩ ∧ Mm w w' [(g2, w8 N, 40), (g5, ws 0, 36), (g9, rowOf .u64 (shw (rs N (m + 1)) (bit N m) q) 4, 36)]) ⟨3, (fun qq => List.getD [u0 18, u0 19, u0 20, u0 21, u0 22, u0 23, u0 24, u0 25, u0 26, u0 27, u0 28, u0 29, u0 30, u0 31, u0 32, u0 33] qq undef), rfl, (by omega), rfl, hm25⟩ ?_
    clear hm25
    rintro _ _ w26 ⟨q, u1, hn1, hq, rfl, hm27⟩ R28 hR28
    refine wp_seq_k (fun K29 hK29 => ?_)
    refine wp_seq_k (fun K30 hK30 => ?_)
    refine wp_region_lit ?_
    refine lst (wanted_none rfl) (w_value 23 (.int .i64 ((q : Nat) : Int)) rfl (run_mv rfl rfl) ?_)
    simp only [List.setIfInBounds_toArray, List.set_cons_zero, List.set_cons_succ]
    refine lst (wanted_none rfl) (w_value 24 (.bool (decide (0 < q))) rfl (r_gtr q 0 rfl rfl rfl) ?_)
    simp only [List.setIfInBounds_toArray, List.set_cons_zero, List.set_cons_succ]
    refine wpList_nil ?_
    refine then_n (hK30 _ _ ?_)
    refine cond_d (0 < q) rfl (fun hc31 => ?_) (fun hc31 => ?_)
    · refine wp_skip ?_
      refine then_n (hK29 _ _ ?_)
      refine wp_seq_k (fun K32 hK32 => ?_)
      refine wp_block ?_
      refine wp_mono (Q := fun e a' w' => e = Exit.normal ∧ a' = ⟨#[.agg (w8 N), .pointer (some ⟨g2, 0, none⟩), .pointer (some ⟨g5, 0, none⟩), .pointer (some ⟨g9, 0, none⟩), .int .i64 ((m : Nat) : Int), .int .u64 (((bit N m) : Nat) : Int), .int .i64 ((q : Nat) : Int), u0 2, u0 3, u0 4, .int .i64 ((m : Nat) : Int), .bool (decide (((0 : Nat) : Int) ≤ ((m : Nat) : Int))), u0 7, u0 8, .int .i64 ((m : Nat) : Int), .int .i64 (((m / 64) : Nat) : Int), .pointer (some ⟨g2, (m / 64), none⟩), .int .u64 (((wd N) (m / 64) : Nat) : Int), .int .i64 ((m : Nat) : Int), .int .u64 ((m : Nat) : Int), .int .u64 (((m % 64) : Nat) : Int), .int .u64 (((((wd N) (m / 64)) / 2 ^ (m % 64)) : Nat) : Int), .int .u64 (((bit N m) : Nat) : Int), .int .i64 ((q : Nat) : Int), .bool (decide (0 < q)), u1 2, u1 3, .int .i64 ((q : Nat) : Int), .int .i64 ((q : Nat) : Int), .pointer (some ⟨g9, q, none⟩), .int .u64 (((shw (rs N (m + 1)) (bit N m) q) q : Nat) : Int), .int .u64 (((((shw (rs N (m + 1)) (bit N m) q) q) * 2 ^ 1 % 18446744073709551616) : Nat) : Int), .int .i64 ((q : Nat) : Int), .int .i64 (((q - 1) : Nat) : Int), .pointer (some ⟨g9, (q - 1), none⟩), .int .u64 (((shw (rs N (m + 1)) (bit N m) q) (q - 1) : Nat) : Int), .int .u64 (((((shw (rs N (m + 1)) (bit N m) q) (q - 1)) / 2 ^ 63) : Nat) : Int), .int .u64 (((wd (2 * rs N (m + 1) + bit N m) q) : Nat) : Int), .pointer (some ⟨g9, q, none⟩), u0 34, u0 35, u0 36, u0 37, u0 38, u0 39, u0 40, u0 41, u0 42, u0 43, u0 44, u0 45, u0 46, u0 47, u0 48, u0 49, u0 50, u0 51, u0 52, u0 53, u0 54, u0 55, u0 56, u0 57, u0 58, u0 59, u0 60, u0 61, undef], []⟩ ∧ Mm w w' [(g2, w8 N, 40), (g5, ws 0, 36), (g9, rowOf .u64 (up (shw (rs N (m + 1)) (bit N m) q) q (wd (2 * rs N (m + 1) + bit N m) q)) 4, 36)]) ?_ ?_
      · have hm33 := hm27.drew
        refine wp_region_held_drew (S := fun w' => True) (by kernel_rfl) (trivial) (fun _ => ?_)
        generalize w26.drew = w34 at *
        refine Sym.take_at 0 27 (.int .i64 ((q : Nat) : Int)) rfl rfl (by kernel_rfl) (by kernel_rfl) (by kernel_rfl) (fun _ _ _ h => nomatch h.1) (wanted_none rfl) (fun _ hw => run_mv rfl rfl) (trivial) ?_
        simp only [List.setIfInBounds_toArray, List.set_cons_zero, List.set_cons_succ]
        refine Sym.take_at 1 28 (.int .i64 ((q : Nat) : Int)) rfl rfl (by kernel_rfl) (by kernel_rfl) (by kernel_rfl) (fun _ _ _ h => nomatch h.1) (wanted_none rfl) (fun _ hw => run_mv rfl rfl) (trivial) ?_
        simp only [List.setIfInBounds_toArray, List.set_cons_zero, List.set_cons_succ]
        refine Sym.take_at 2 29 (.pointer (some ⟨g9, q, none⟩)) rfl rfl (by kernel_rfl) (by kernel_rfl) (by kernel_rfl) (fun _ _ _ h => nomatch h.1) (wanted_none rfl) (fun _ hw => r_ix g9 q (by omega) Try.underlying36 one_u64 rfl rfl rfl) (trivial) ?_
        simp only [List.setIfInBounds_toArray, List.set_cons_zero, List.set_cons_succ]
        refine Sym.take_at 5 32 (.int .i64 ((q : Nat) : Int)) rfl rfl (by kernel_rfl) (by kernel_rfl) (by kernel_rfl) (fun _ _ _ h => nomatch h.1) (wanted_none rfl) (fun _ hw => run_mv rfl rfl) (trivial) ?_
        simp only [List.setIfInBounds_toArray, List.set_cons_zero, List.set_cons_succ]
        refine Sym.take_at 6 33 (.int .i64 (((q - 1) : Nat) : Int)) rfl rfl (by kernel_rfl) (by kernel_rfl) (by kernel_rfl) (fun _ _ _ h => nomatch h.1) (wanted_none rfl) (fun _ hw => r_sub q 1 (show q < 9223372036854775808 from by omega) (by omega) rfl rfl rfl) (trivial) ?_
        simp only [List.setIfInBounds_toArray, List.set_cons_zero, List.set_cons_succ]
        refine Sym.take_at 7 34 (.pointer (some ⟨g9, (q - 1), none⟩)) rfl rfl (by kernel_rfl) (by kernel_rfl) (by kernel_rfl) (fun _ _ _ h => nomatch h.1) (wanted_none rfl) (fun _ hw => r_ix g9 (q - 1) (by omega) Try.underlying36 one_u64 rfl rfl rfl) (trivial) ?_
        simp only [List.setIfInBounds_toArray, List.set_cons_zero, List.set_cons_succ]
        refine two_ready 3 8 (by kernel_rfl) ?_ ?_
        · refine opd rfl (wanted_none rfl) (w_value 30 (.int .u64 (((shw (rs N (m + 1)) (bit N m) q) q : Nat) : Int)) rfl (r_cell (f := (shw (rs N (m + 1)) (bit N m) q)) (n := 4) g9 q (by omega) (hm33.at 2 rfl) Try.underlying35 rfl rfl) ⟨trivial, ?_⟩)
          simp only [List.setIfInBounds_toArray, List.set_cons_zero, List.set_cons_succ]
          refine Sym.take_at 4 31 (.int .u64 (((((shw (rs N (m + 1)) (bit N m) q) q) * 2 ^ 1 % 18446744073709551616) : Nat) : Int)) rfl rfl (by kernel_rfl) (by kernel_rfl) (by kernel_rfl) (fun _ _ _ h => nomatch h.1) (wanted_none rfl) (fun _ hw => r_shlw ((shw (rs N (m + 1)) (bit N m) q) q) 1 (by decide) rfl rfl rfl) (trivial) ?_
          simp only [List.setIfInBounds_toArray, List.set_cons_zero, List.set_cons_succ]
          refine one_ready 8 (by kernel_rfl) ?_
          refine opd rfl (wanted_none rfl) (w_value 35 (.int .u64 (((shw (rs N (m + 1)) (bit N m) q) (q - 1) : Nat) : Int)) rfl (r_cell (f := (shw (rs N (m + 1)) (bit N m) q)) (n := 4) g9 (q - 1) (by omega) (hm33.at 2 rfl) Try.underlying35 rfl rfl) ⟨trivial, ?_⟩)
          simp only [List.setIfInBounds_toArray, List.set_cons_zero, List.set_cons_succ]
          refine Sym.take_at 9 36 (.int .u64 (((((shw (rs N (m + 1)) (bit N m) q) (q - 1)) / 2 ^ 63) : Nat) : Int)) rfl rfl (by kernel_rfl) (by kernel_rfl) (by kernel_rfl) (fun _ _ _ h => nomatch h.1) (wanted_none rfl) (fun _ hw => r_shr ((shw (rs N (m + 1)) (bit N m) q) (q - 1)) 63 (by decide) rfl rfl rfl) (trivial) ?_
          simp only [List.setIfInBounds_toArray, List.set_cons_zero, List.set_cons_succ]
          refine Sym.take_at 10 37 (.int .u64 (((wd (2 * rs N (m + 1) + bit N m) q) : Nat) : Int)) rfl rfl (by kernel_rfl) (by kernel_rfl) (by kernel_rfl) (fun _ _ _ h => nomatch h.1) (wanted_none rfl) (fun _ hw => r_orx (((shw (rs N (m + 1)) (bit N m) q) q) * 2 ^ 1 % 18446744073709551616) (((shw (rs N (m + 1)) (bit N m) q) (q - 1)) / 2 ^ 63) 64 (wd (2 * rs N (m + 1) + bit N m) q) (by decide) (Nat.mod_lt _ (by decide)) (Nat.lt_of_le_of_lt (Nat.div_le_self _ _) (by rw [shw_less]; exact wd_lt _ _)) (by rw [shw_here, shw_less, or_sum _ _ 1 (by omega) (by have := wd_lt (rs N (m + 1)) (q - 1); omega), shw_val _ _ _ (bit_le _ _) (by omega)]) rfl rfl rfl) (trivial) ?_
          simp only [List.setIfInBounds_toArray, List.set_cons_zero, List.set_cons_succ]
          refine Sym.take_at 11 38 (.pointer (some ⟨g9, q, none⟩)) rfl rfl (by kernel_rfl) (by kernel_rfl) (by kernel_rfl) (fun _ _ _ h => nomatch h.1) (wanted_none rfl) (fun _ hw => r_ix g9 q (by omega) Try.underlying36 one_u64 rfl rfl rfl) (trivial) ?_
          simp only [List.setIfInBounds_toArray, List.set_cons_zero, List.set_cons_succ]
          refine one_ready 12 (by kernel_rfl) ?_
          refine opd rfl (wanted_none rfl) (m_put 2 (new := rowOf .u64 (up (shw (rs N (m + 1)) (bit N m) q) q (wd (2 * rs N (m + 1) + bit N m) q)) 4) q (.int .u64 (((wd (2 * rs N (m + 1) + bit N m) q) : Nat) : Int)) (old := rowOf .u64 (shw (rs N (m + 1)) (bit N m) q) 4) hm33 rfl rfl (p_cell (n := 4) (f := (shw (rs N (m + 1)) (bit N m) q)) g9 q (wd (2 * rs N (m + 1) + bit N m) q) (by omega) (hm33.at 2 rfl) rfl one_u64 rfl rfl) (rowOf_set _ _ _ _ _) (fun w35 (hm36 : Mm w w35 [(g2, w8 N, 40), (g5, ws 0, 36), (g9, rowOf .u64 (up (shw (rs N (m + 1)) (bit N m) q) q (wd (2 * rs N (m + 1) + bit N m) q)) 4, 36)]) => ?_))
          refine ⟨trivial, ?_⟩
          refine wpAnyH_done (by kernel_rfl) ?_ _
          exact ⟨rfl, rfl, hm36⟩
        · refine opd rfl (wanted_none rfl) (w_value 35 (.int .u64 (((shw (rs N (m + 1)) (bit N m) q) (q - 1) : Nat) : Int)) rfl (r_cell (f := (shw (rs N (m + 1)) (bit N m) q)) (n := 4) g9 (q - 1) (by omega) (hm33.at 2 rfl) Try.underlying35 rfl rfl) ⟨trivial, ?_⟩)
          simp only [List.setIfInBounds_toArray, List.set_cons_zero, List.set_cons_succ]
          refine Sym.take_at 9 36 (.int .u64 (((((shw (rs N (m + 1)) (bit N m) q) (q - 1)) / 2 ^ 63) : Nat) : Int)) rfl rfl (by kernel_rfl) (by kernel_rfl) (by kernel_rfl) (fun _ _ _ h => nomatch h.1) (wanted_none rfl) (fun _ hw => r_shr ((shw (rs N (m + 1)) (bit N m) q) (q - 1)) 63 (by decide) rfl rfl rfl) (trivial) ?_
          simp only [List.setIfInBounds_toArray, List.set_cons_zero, List.set_cons_succ]
          refine one_ready 3 (by kernel_rfl) ?_
          refine opd rfl (wanted_none rfl) (w_value 30 (.int .u64 (((shw (rs N (m + 1)) (bit N m) q) q : Nat) : Int)) rfl (r_cell (f := (shw (rs N (m + 1)) (bit N m) q)) (n := 4) g9 q (by omega) (hm33.at 2 rfl) Try.underlying35 rfl rfl) ⟨trivial, ?_⟩)
          simp only [List.setIfInBounds_toArray, List.set_cons_zero, List.set_cons_succ]
          refine Sym.take_at 4 31 (.int .u64 (((((shw (rs N (m + 1)) (bit N m) q) q) * 2 ^ 1 % 18446744073709551616) : Nat) : Int)) rfl rfl (by kernel_rfl) (by kernel_rfl) (by kernel_rfl) (fun _ _ _ h => nomatch h.1) (wanted_none rfl) (fun _ hw => r_shlw ((shw (rs N (m + 1)) (bit N m) q) q) 1 (by decide) rfl rfl rfl) (trivial) ?_
          simp only [List.setIfInBounds_toArray, List.set_cons_zero, List.set_cons_succ]
          refine Sym.take_at 10 37 (.int .u64 (((wd (2 * rs N (m + 1) + bit N m) q) : Nat) : Int)) rfl rfl (by kernel_rfl) (by kernel_rfl) (by kernel_rfl) (fun _ _ _ h => nomatch h.1) (wanted_none rfl) (fun _ hw => r_orx (((shw (rs N (m + 1)) (bit N m) q) q) * 2 ^ 1 % 18446744073709551616) (((shw (rs N (m + 1)) (bit N m) q) (q - 1)) / 2 ^ 63) 64 (wd (2 * rs N (m + 1) + bit N m) q) (by decide) (Nat.mod_lt _ (by decide)) (Nat.lt_of_le_of_lt (Nat.div_le_self _ _) (by rw [shw_less]; exact wd_lt _ _)) (by rw [shw_here, shw_less, or_sum _ _ 1 (by omega) (by have := wd_lt (rs N (m + 1)) (q - 1); omega), shw_val _ _ _ (bit_le _ _) (by omega)]) rfl rfl rfl) (trivial) ?_
          simp only [List.setIfInBounds_toArray, List.set_cons_zero, List.set_cons_succ]
          refine Sym.take_at 11 38 (.pointer (some ⟨g9, q, none⟩)) rfl rfl (by kernel_rfl) (by kernel_rfl) (by kernel_rfl) (fun _ _ _ h => nomatch h.1) (wanted_none rfl) (fun _ hw => r_ix g9 q (by omega) Try.underlying36 one_u64 rfl rfl rfl) (trivial) ?_
          simp only [List.setIfInBounds_toArray, List.set_cons_zero, List.set_cons_succ]
          refine one_ready 12 (by kernel_rfl) ?_
          refine opd rfl (wanted_none rfl) (m_put 2 (new := rowOf .u64 (up (shw (rs N (m + 1)) (bit N m) q) q (wd (2 * rs N (m + 1) + bit N m) q)) 4) q (.int .u64 (((wd (2 * rs N (m + 1) + bit N m) q) : Nat) : Int)) (old := rowOf .u64 (shw (rs N (m + 1)) (bit N m) q) 4) hm33 rfl rfl (p_cell (n := 4) (f := (shw (rs N (m + 1)) (bit N m) q)) g9 q (wd (2 * rs N (m + 1) + bit N m) q) (by omega) (hm33.at 2 rfl) rfl one_u64 rfl rfl) (rowOf_set _ _ _ _ _) (fun w37 (hm38 : Mm w w37 [(g2, w8 N, 40), (g5, ws 0, 36), (g9, rowOf .u64 (up (shw (rs N (m + 1)) (bit N m) q) q (wd (2 * rs N (m + 1) + bit N m) q)) 4, 36)]) => ?_))
          refine ⟨trivial, ?_⟩
          refine wpAnyH_done (by kernel_rfl) ?_ _
          exact ⟨rfl, rfl, hm38⟩
      clear hm27
      rintro _ _ w39 ⟨rfl, rfl, hm40⟩
      have hm41 : Mm w w39 [(g2, w8 N, 40), (g5, ws 0, 36), (g9, rowOf .u64 (shw (rs N (m + 1)) (bit N m) (q - 1)) 4, 36)] := by rw [show (rowOf .u64 (shw (rs N (m + 1)) (bit N m) (q - 1)) 4 : Array Value) = rowOf .u64 (up (shw (rs N (m + 1)) (bit N m) q) q (wd (2 * rs N (m + 1) + bit N m) q)) 4 from by rw [shw_up _ _ _ _ (by omega) rfl]]; exact hm40
      refine blk_n ?_
      refine then_n (hK32 _ _ ?_)
      refine wp_region_lit ?_
      refine lst (wanted_none rfl) (w_value 25 (.int .i64 ((q : Nat) : Int)) rfl (run_mv rfl rfl) ?_)
      simp only [List.setIfInBounds_toArray, List.set_cons_zero, List.set_cons_succ]
      refine lst (wanted_none rfl) (w_value 26 (.int .i64 (((q - 1) : Nat) : Int)) rfl (r_sub q 1 (show q < 9223372036854775808 from by omega) (by omega) rfl rfl rfl) ?_)
      simp only [List.setIfInBounds_toArray, List.set_cons_zero, List.set_cons_succ]
      refine lst (wanted_none rfl) (w_value 6 (.int .i64 (((q - 1) : Nat) : Int)) rfl (run_as rfl rfl) ?_)
      simp only [List.setIfInBounds_toArray, List.set_cons_zero, List.set_cons_succ]
      refine wpList_nil ?_
      refine then_n (hR28 _ _ _ ⟨(q - 1), (fun qq => List.getD [.int .i64 ((q : Nat) : Int), .bool (decide (0 < q)), .int .i64 ((q : Nat) : Int), .int .i64 (((q - 1) : Nat) : Int), .int .i64 ((q : Nat) : Int), .int .i64 ((q : Nat) : Int), .pointer (some ⟨g9, q, none⟩), .int .u64 (((shw (rs N (m + 1)) (bit N m) q) q : Nat) : Int), .int .u64 (((((shw (rs N (m + 1)) (bit N m) q) q) * 2 ^ 1 % 18446744073709551616) : Nat) : Int), .int .i64 ((q : Nat) : Int), .int .i64 (((q - 1) : Nat) : Int), .pointer (some ⟨g9, (q - 1), none⟩), .int .u64 (((shw (rs N (m + 1)) (bit N m) q) (q - 1) : Nat) : Int), .int .u64 (((((shw (rs N (m + 1)) (bit N m) q) (q - 1)) / 2 ^ 63) : Nat) : Int), .int .u64 (((wd (2 * rs N (m + 1) + bit N m) q) : Nat) : Int), .pointer (some ⟨g9, q, none⟩)] qq undef), rfl, (by omega), rfl, hm41⟩ ?_)
      omega
    · obtain rfl : q = 0 := by omega
      refine wp_exit ?_
      refine then_x ?_
      refine then_x ?_
      refine blk_x ?_
      refine then_n (hK23 _ _ ?_)
      refine wp_seq_k (fun K42 hK42 => ?_)
      refine wp_region_lit ?_
      refine lst (wanted_none rfl) (w_value 39 (.pointer (some ⟨g9, 0, none⟩)) rfl (r_ix g9 0 (by decide) Try.underlying36 one_u64 rfl rfl rfl) ?_)
      simp only [List.setIfInBounds_toArray, List.set_cons_zero, List.set_cons_succ]
      refine lst (wanted_none rfl) (w_value 40 (.int .u64 (((shw (rs N (m + 1)) (bit N m) 0) 0 : Nat) : Int)) rfl (r_cell (f := (shw (rs N (m + 1)) (bit N m) 0)) (n := 4) g9 0 (by decide) (hm27.at 2 rfl) Try.underlying35 rfl rfl) ?_)
      simp only [List.setIfInBounds_toArray, List.set_cons_zero, List.set_cons_succ]
      refine lst (wanted_none rfl) (w_value 41 (.int .u64 (((((shw (rs N (m + 1)) (bit N m) 0) 0) * 2 ^ 1 % 18446744073709551616) : Nat) : Int)) rfl (r_shlw ((shw (rs N (m + 1)) (bit N m) 0) 0) 1 (by decide) rfl rfl rfl) ?_)
      simp only [List.setIfInBounds_toArray, List.set_cons_zero, List.set_cons_succ]
      refine lst (wanted_none rfl) (w_value 42 (.int .u64 (((bit N m) : Nat) : Int)) rfl (run_mv rfl rfl) ?_)
      simp only [List.setIfInBounds_toArray, List.set_cons_zero, List.set_cons_succ]
      refine lst (wanted_none rfl) (w_value 43 (.int .u64 (((shw (rs N (m + 1)) (bit N m) 0 0 * 2 ^ 1 % 18446744073709551616 + bit N m) : Nat) : Int)) rfl (r_orx (((shw (rs N (m + 1)) (bit N m) 0) 0) * 2 ^ 1 % 18446744073709551616) (bit N m) 64 (shw (rs N (m + 1)) (bit N m) 0 0 * 2 ^ 1 % 18446744073709551616 + bit N m) (by decide) (Nat.mod_lt _ (by decide)) (Nat.lt_of_le_of_lt (bit_le _ _) (by decide)) (or_sum _ _ 1 (by omega) (Nat.lt_of_le_of_lt (bit_le _ _) (by decide))) rfl rfl rfl) ?_)
      simp only [List.setIfInBounds_toArray, List.set_cons_zero, List.set_cons_succ]
      refine lst (wanted_none rfl) (w_value 44 (.pointer (some ⟨g9, 0, none⟩)) rfl (r_ix g9 0 (by decide) Try.underlying36 one_u64 rfl rfl rfl) ?_)
      simp only [List.setIfInBounds_toArray, List.set_cons_zero, List.set_cons_succ]
      refine lst (wanted_none rfl) (m_put 2 (new := rowOf .u64 (up (shw (rs N (m + 1)) (bit N m) 0) 0 (shw (rs N (m + 1)) (bit N m) 0 0 * 2 ^ 1 % 18446744073709551616 + bit N m)) 4) 0 (.int .u64 (((shw (rs N (m + 1)) (bit N m) 0 0 * 2 ^ 1 % 18446744073709551616 + bit N m) : Nat) : Int)) (old := rowOf .u64 (shw (rs N (m + 1)) (bit N m) 0) 4) hm27 rfl rfl (p_cell (n := 4) (f := (shw (rs N (m + 1)) (bit N m) 0)) g9 0 (shw (rs N (m + 1)) (bit N m) 0 0 * 2 ^ 1 % 18446744073709551616 + bit N m) (by decide) (hm27.at 2 rfl) rfl one_u64 rfl rfl) (rowOf_set _ _ _ _ _) (fun w43 (hm44 : Mm w w43 [(g2, w8 N, 40), (g5, ws 0, 36), (g9, rowOf .u64 (up (shw (rs N (m + 1)) (bit N m) 0) 0 (shw (rs N (m + 1)) (bit N m) 0 0 * 2 ^ 1 % 18446744073709551616 + bit N m)) 4, 36)]) => ?_))
      refine wpList_nil ?_
      have hm45 : Mm w w43 [(g2, w8 N, 40), (g5, ws 0, 36), (g9, ws (2 * rs N (m + 1) + bit N m), 36)] := by rw [show (ws (2 * rs N (m + 1) + bit N m) : Array Value) = rowOf .u64 (up (shw (rs N (m + 1)) (bit N m) 0) 0 (shw (rs N (m + 1)) (bit N m) 0 0 * 2 ^ 1 % 18446744073709551616 + bit N m)) 4 from shw_end _ _ _ (bit_le _ _) (by rw [shw_here])]; exact hm44
      refine then_n (hK42 _ _ ?_)
      refine wp_seq_k (fun K46 hK46 => ?_)
      have hm47 := hm45.drew
      refine wp_region_held_drew (S := fun w' => Sym.Blk w' g9 (ws (2 * rs N (m + 1) + bit N m)) 36) (by kernel_rfl) (hm45.at 2 rfl) (fun _ => ?_)
      generalize w43.drew = w48 at *
      refine Sym.take_at 0 45 (.agg (ws (2 * rs N (m + 1) + bit N m))) rfl rfl (by kernel_rfl) (by kernel_rfl) (by kernel_rfl) (fun _ _ _ h => h) (wanted_none rfl) (fun _ hw => run_row rfl rfl hw Try.underlying36 rfl (by rw [ws_sz]; exact info_x)) (hm47.at 2 rfl) ?_
      simp only [List.setIfInBounds_toArray, List.set_cons_zero, List.set_cons_succ]
      refine one_ready 1 (by kernel_rfl) ?_
      refine opd rfl (wanted_none rfl) (m_call hm47 46 (.agg (ws LL)) rfl (run_rorder rfl) (rorder_any _) (fun w49 hm50 => ?_))
      refine ⟨hm50.at 2 rfl, ?_⟩
      simp only [List.setIfInBounds_toArray, List.set_cons_zero, List.set_cons_succ]
      refine one_ready 2 (by kernel_rfl) ?_
      refine opd rfl (wanted_none rfl) (m_call hm50 47 (.bool (decide ((2 * rs N (m + 1) + bit N m) < LL))) rfl (run_rbelow rfl rfl rfl) (rbelow_any (2 * rs N (m + 1) + bit N m) LL (rs_2 N m) (by decide) _) (fun w51 hm52 => ?_))
      refine ⟨hm52.at 2 rfl, ?_⟩
      simp only [List.setIfInBounds_toArray, List.set_cons_zero, List.set_cons_succ]
      refine Sym.take_at 3 48 (.bool (decide (¬ ((2 * rs N (m + 1) + bit N m) < LL)))) rfl rfl (by kernel_rfl) (by kernel_rfl) (by kernel_rfl) (fun _ _ _ h => h) (wanted_none rfl) (fun _ hw => r_notD ((2 * rs N (m + 1) + bit N m) < LL) rfl rfl) (hm52.at 2 rfl) ?_
      simp only [List.setIfInBounds_toArray, List.set_cons_zero, List.set_cons_succ]
      refine wpAnyH_done (by kernel_rfl) ?_ _
      refine then_n (hK46 _ _ ?_)
      refine cond_d (¬ ((2 * rs N (m + 1) + bit N m) < LL)) rfl (fun hc53 => ?_) (fun hc53 => ?_)
      · refine wp_seq_k (fun K54 hK54 => ?_)
        refine wp_region_lit ?_
        refine lst (wanted_none rfl) (m_call hm52 49 (.agg (ws LL)) rfl (run_rorder rfl) (rorder_any _) (fun w55 hm56 => ?_))
        simp only [List.setIfInBounds_toArray, List.set_cons_zero, List.set_cons_succ]
        refine lst (wanted_none rfl) (m_alloc (c := ws 0) (T := 36) hm56 7 rfl (al_X rfl) (fun g57 w58 (hm59 : Mm w w58 [(g2, w8 N, 40), (g5, ws 0, 36), (g9, ws (2 * rs N (m + 1) + bit N m), 36), (g57, ws 0, 36)]) => ?_))
        simp only [List.setIfInBounds_toArray, List.set_cons_zero, List.set_cons_succ]
        refine lst (wanted_none rfl) (m_store 3 36 _ _ (ws LL) (old := ws 0) hm59 rfl rfl rfl rfl rfl (by rw [ws_sz]; exact info_x) ((ws_sz _).trans (ws_sz _).symm) (ws_one _) (fun w60 (hm61 : Mm w w60 [(g2, w8 N, 40), (g5, ws 0, 36), (g9, ws (2 * rs N (m + 1) + bit N m), 36), (g57, ws LL, 36)]) => ?_))
        refine wpList_nil ?_
        refine then_n (hK54 _ _ ?_)
        refine wp_seq_k (fun K62 hK62 => ?_)
        refine wp_region_lit ?_
        refine lst (wanted_none rfl) (w_value 8 (.int .u64 0) rfl (run_as rfl rfl) ?_)
        simp only [List.setIfInBounds_toArray, List.set_cons_zero, List.set_cons_succ]
        refine wpList_nil ?_
        refine then_n (hK62 _ _ ?_)
        refine wp_seq_k (fun K63 hK63 => ?_)
        refine wp_region_lit ?_
        refine lst (wanted_none rfl) (w_value 9 (.int .i64 0) rfl (run_as rfl rfl) ?_)
        simp only [List.setIfInBounds_toArray, List.set_cons_zero, List.set_cons_succ]
        refine wpList_nil ?_
        have hm64 : Mm w w60 [(g2, w8 N, 40), (g5, ws 0, 36), (g9, rowOf .u64 (mixw ((2 * rs N (m + 1) + bit N m) + MM - LL) (2 * rs N (m + 1) + bit N m) 0) 4, 36), (g57, ws LL, 36)] := by rw [show (rowOf .u64 (mixw ((2 * rs N (m + 1) + bit N m) + MM - LL) (2 * rs N (m + 1) + bit N m) 0) 4 : Array Value) = ws (2 * rs N (m + 1) + bit N m) from by rw [mixw_none]; rfl]; exact hm61
        rw [show ((.int .u64 0) : Value) = .int .u64 (((bo (2 * rs N (m + 1) + bit N m) LL 0) : Nat) : Int) from by rw [bo_zero]; rfl]
        refine then_n (hK63 _ _ ?_)
        refine wp_block ?_
        refine wp_loop_n (fun n' a' w' => ∃ (i : Nat) (u2 : Nat → Value), n' = 4 - i ∧ (i ≤ 4) ∧ a' = ⟨#[.agg (w8 N), .pointer (some ⟨g2, 0, none⟩), .pointer (some ⟨g5, 0, none⟩), .pointer (some ⟨g9, 0, none⟩), .int .i64 ((m : Nat) : Int), .int .u64 (((bit N m) : Nat) : Int), .int .i64 0, .pointer (some ⟨g57, 0, none⟩), .int .u64 (((bo (2 * rs N (m + 1) + bit N m) LL i) : Nat) : Int), .int .i64 ((i : Nat) : Int), .int .i64 ((m : Nat) : Int), .bool (decide (((0 : Nat) : Int) ≤ ((m : Nat) : Int))), u0 7, u0 8, .int .i64 ((m : Nat) : Int), .int .i64 (((m / 64) : Nat) : Int), .pointer (some ⟨g2, (m / 64), none⟩), .int .u64 (((wd N) (m / 64) : Nat) : Int), .int .i64 ((m : Nat) : Int), .int .u64 ((m : Nat) : Int), .int .u64 (((m % 64) : Nat) : Int), .int .u64 (((((wd N) (m / 64)) / 2 ^ (m % 64)) : Nat) : Int), .int .u64 (((bit N m) : Nat) : Int), .int .i64 0, .bool (decide (0 < 0)), u1 2, u1 3, u1 4, u1 5, u1 6, u1 7, u1 8, u1 9, u1 10, u1 11, u1 12, u1 13, u1 14, u1 15, .pointer (some ⟨g9, 0, none⟩), .int .u64 (((shw (rs N (m + 1)) (bit N m) 0) 0 : Nat) : Int), .int .u64 (((((shw (rs N (m + 1)) (bit N m) 0) 0) * 2 ^ 1 % 18446744073709551616) : Nat) : Int), .int .u64 (((bit N m) : Nat) : Int), .int .u64 (((shw (rs N (m + 1)) (bit N m) 0 0 * 2 ^ 1 % 18446744073709551616 + bit N m) : Nat) : Int), .pointer (some ⟨g9, 0, none⟩), .agg (ws (2 * rs N (m + 1) + bit N m)), .agg (ws LL), .bool (decide ((2 * rs N (m + 1) + bit N m) < LL)), .bool (decide (¬ ((2 * rs N (m + 1) + bit N m) < LL))), .agg (ws LL), u2 0, u2 1, u2 2, u2 3, u2 4, u2 5, u2 6, u2 7, u2 8, u2 9, u2 10, u2 11, u2 12, u2 13, u2 14, u2 15, u2 16, undef], []⟩ ∧ Mm w w' [(g2, w8 N, 40), (g5, ws 0, 36), (g9, rowOf .u64 (mixw ((2 * rs N (m + 1) + bit N m) + MM - LL) (2 * rs N (m + 1) + bit N m) i) 4, 36), (g57, ws LL, 36)]) ⟨0, (fun qq => List.getD [u0 45, u0 46, u0 47, u0 48, u0 49, u0 50, u0 51, u0 52, u0 53, u0 54, u0 55, u0 56, u0 57, u0 58, u0 59, u0 60, u0 61] qq undef), rfl, (by omega), rfl, hm64⟩ ?_
        clear hm64
        rintro _ _ w65 ⟨i, u2, hn2, hi, rfl, hm66⟩ R67 hR67
        refine wp_seq_k (fun K68 hK68 => ?_)
        refine wp_seq_k (fun K69 hK69 => ?_)
        refine wp_region_lit ?_
        refine lst (wanted_none rfl) (w_value 50 (.int .i64 ((i : Nat) : Int)) rfl (run_mv rfl rfl) ?_)
        simp only [List.setIfInBounds_toArray, List.set_cons_zero, List.set_cons_succ]
        refine lst (wanted_none rfl) (w_value 51 (.bool (decide (i < 4))) rfl (r_lss i 4 rfl rfl rfl) ?_)
        simp only [List.setIfInBounds_toArray, List.set_cons_zero, List.set_cons_succ]
        refine wpList_nil ?_
        refine then_n (hK69 _ _ ?_)
        refine cond_d (i < 4) rfl (fun hc70 => ?_) (fun hc70 => ?_)
        · refine wp_skip ?_
          refine then_n (hK68 _ _ ?_)
          refine wp_seq_k (fun K71 hK71 => ?_)
          refine wp_block ?_
          have hm72 := hm66.drew
          refine wp_region_held_drew (S := fun w' => Sym.Blk w' g57 (ws LL) 36) (by kernel_rfl) (hm66.at 3 rfl) (fun _ => ?_)
          generalize w65.drew = w73 at *
          refine Sym.take_at 0 55 (.int .i64 ((i : Nat) : Int)) rfl rfl (by kernel_rfl) (by kernel_rfl) (by kernel_rfl) (fun _ _ _ h => h) (wanted_none rfl) (fun _ hw => run_mv rfl rfl) (hm72.at 3 rfl) ?_
          simp only [List.setIfInBounds_toArray, List.set_cons_zero, List.set_cons_succ]
          refine Sym.take_at 1 56 (.int .i64 ((i : Nat) : Int)) rfl rfl (by kernel_rfl) (by kernel_rfl) (by kernel_rfl) (fun _ _ _ h => h) (wanted_none rfl) (fun _ hw => run_mv rfl rfl) (hm72.at 3 rfl) ?_
          simp only [List.setIfInBounds_toArray, List.set_cons_zero, List.set_cons_succ]
          refine Sym.take_at 2 57 (.pointer (some ⟨g9, i, none⟩)) rfl rfl (by kernel_rfl) (by kernel_rfl) (by kernel_rfl) (fun _ _ _ h => h) (wanted_none rfl) (fun _ hw => r_ix g9 i (by omega) Try.underlying36 one_u64 rfl rfl rfl) (hm72.at 3 rfl) ?_
          simp only [List.setIfInBounds_toArray, List.set_cons_zero, List.set_cons_succ]
          refine Sym.take_at 4 59 (.int .i64 ((i : Nat) : Int)) rfl rfl (by kernel_rfl) (by kernel_rfl) (by kernel_rfl) (fun _ _ _ h => h) (wanted_none rfl) (fun _ hw => run_mv rfl rfl) (hm72.at 3 rfl) ?_
          simp only [List.setIfInBounds_toArray, List.set_cons_zero, List.set_cons_succ]
          refine Sym.take_at 5 60 (.pointer (some ⟨g57, i, none⟩)) rfl rfl (by kernel_rfl) (by kernel_rfl) (by kernel_rfl) (fun _ _ _ h => h) (wanted_none rfl) (fun _ hw => r_ix g57 i (by omega) Try.underlying36 one_u64 rfl rfl rfl) (hm72.at 3 rfl) ?_
          simp only [List.setIfInBounds_toArray, List.set_cons_zero, List.set_cons_succ]
          refine Sym.take_at 6 61 (.int .u64 (((wd LL) i : Nat) : Int)) rfl rfl (by kernel_rfl) (by kernel_rfl) (by kernel_rfl) (fun _ _ _ h => h) (wanted_none rfl) (fun _ hw => r_cell (f := (wd LL)) (n := 4) g57 i (by omega) hw Try.underlying35 rfl rfl) (hm72.at 3 rfl) ?_
          simp only [List.setIfInBounds_toArray, List.set_cons_zero, List.set_cons_succ]
          refine Sym.take_at 7 62 (.int .u64 (((bo (2 * rs N (m + 1) + bit N m) LL i) : Nat) : Int)) rfl rfl (by kernel_rfl) (by kernel_rfl) (by kernel_rfl) (fun _ _ _ h => h) (wanted_none rfl) (fun _ hw => run_mv rfl rfl) (hm72.at 3 rfl) ?_
          simp only [List.setIfInBounds_toArray, List.set_cons_zero, List.set_cons_succ]
          refine one_ready 3 (by kernel_rfl) ?_
          refine opd rfl (wanted_none rfl) (w_value 58 (.int .u64 (((mixw ((2 * rs N (m + 1) + bit N m) + MM - LL) (2 * rs N (m + 1) + bit N m) i) i : Nat) : Int)) rfl (r_cell (f := (mixw ((2 * rs N (m + 1) + bit N m) + MM - LL) (2 * rs N (m + 1) + bit N m) i)) (n := 4) g9 i (by omega) (hm72.at 2 rfl) Try.underlying35 rfl rfl) ⟨hm72.at 3 rfl, ?_⟩)
          simp only [List.setIfInBounds_toArray, List.set_cons_zero, List.set_cons_succ]
          refine one_ready 8 (by kernel_rfl) ?_
          refine opd rfl (wanted_none rfl) (w_value 63 (.tuple #[.int .u64 (((wd ((2 * rs N (m + 1) + bit N m) + MM - LL) i) : Nat) : Int), .int .u64 (((bo (2 * rs N (m + 1) + bit N m) LL (i + 1)) : Nat) : Int)]) rfl (run_sub64o ((mixw ((2 * rs N (m + 1) + bit N m) + MM - LL) (2 * rs N (m + 1) + bit N m) i) i) ((wd LL) i) (bo (2 * rs N (m + 1) + bit N m) LL i) _ _ (bo_le _ _ _) (by rw [mixw_here, wd_sub _ _ _ (by omega) (by decide)]) (by rw [mixw_here, bo_succ]) rfl rfl rfl rfl) ⟨hm72.at 3 rfl, ?_⟩)
          simp only [List.setIfInBounds_toArray, List.set_cons_zero, List.set_cons_succ]
          refine Sym.take_at 9 54 (.tuple #[.int .u64 (((wd ((2 * rs N (m + 1) + bit N m) + MM - LL) i) : Nat) : Int), .int .u64 (((bo (2 * rs N (m + 1) + bit N m) LL (i + 1)) : Nat) : Int)]) rfl rfl (by kernel_rfl) (by kernel_rfl) (by kernel_rfl) (fun _ _ _ h => h) (wanted_none rfl) (fun _ hw => run_mv rfl rfl) (hm72.at 3 rfl) ?_
          simp only [List.setIfInBounds_toArray, List.set_cons_zero, List.set_cons_succ]
          refine Sym.take_at 10 64 (.int .u64 (((wd ((2 * rs N (m + 1) + bit N m) + MM - LL) i) : Nat) : Int)) rfl rfl (by kernel_rfl) (by kernel_rfl) (by kernel_rfl) (fun _ _ _ h => h) (wanted_none rfl) (fun _ hw => run_ex rfl rfl rfl) (hm72.at 3 rfl) ?_
          simp only [List.setIfInBounds_toArray, List.set_cons_zero, List.set_cons_succ]
          refine Sym.take_at 11 65 (.int .u64 (((bo (2 * rs N (m + 1) + bit N m) LL (i + 1)) : Nat) : Int)) rfl rfl (by kernel_rfl) (by kernel_rfl) (by kernel_rfl) (fun _ _ _ h => h) (wanted_none rfl) (fun _ hw => run_ex rfl rfl rfl) (hm72.at 3 rfl) ?_
          simp only [List.setIfInBounds_toArray, List.set_cons_zero, List.set_cons_succ]
          refine Sym.take_at 12 66 (.pointer (some ⟨g9, i, none⟩)) rfl rfl (by kernel_rfl) (by kernel_rfl) (by kernel_rfl) (fun _ _ _ h => h) (wanted_none rfl) (fun _ hw => r_ix g9 i (by omega) Try.underlying36 one_u64 rfl rfl rfl) (hm72.at 3 rfl) ?_
          simp only [List.setIfInBounds_toArray, List.set_cons_zero, List.set_cons_succ]
          refine one_ready 13 (by kernel_rfl) ?_
          refine opd rfl (wanted_none rfl) (m_put 2 (new := rowOf .u64 (up (mixw ((2 * rs N (m + 1) + bit N m) + MM - LL) (2 * rs N (m + 1) + bit N m) i) i (wd ((2 * rs N (m + 1) + bit N m) + MM - LL) i)) 4) i (.int .u64 (((wd ((2 * rs N (m + 1) + bit N m) + MM - LL) i) : Nat) : Int)) (old := rowOf .u64 (mixw ((2 * rs N (m + 1) + bit N m) + MM - LL) (2 * rs N (m + 1) + bit N m) i) 4) hm72 rfl rfl (p_cell (n := 4) (f := (mixw ((2 * rs N (m + 1) + bit N m) + MM - LL) (2 * rs N (m + 1) + bit N m) i)) g9 i (wd ((2 * rs N (m + 1) + bit N m) + MM - LL) i) (by omega) (hm72.at 2 rfl) rfl one_u64 rfl rfl) (rowOf_set _ _ _ _ _) (fun w74 (hm75 : Mm w w74 [(g2, w8 N, 40), (g5, ws 0, 36), (g9, rowOf .u64 (up (mixw ((2 * rs N (m + 1) + bit N m) + MM - LL) (2 * rs N (m + 1) + bit N m) i) i (wd ((2 * rs N (m + 1) + bit N m) + MM - LL) i)) 4, 36), (g57, ws LL, 36)]) => ?_))
          refine ⟨hm75.at 3 rfl, ?_⟩
          refine one_ready 14 (by kernel_rfl) ?_
          refine opd rfl (wanted_none rfl) (w_value 8 (.int .u64 (((bo (2 * rs N (m + 1) + bit N m) LL (i + 1)) : Nat) : Int)) rfl (run_as rfl rfl) ⟨hm75.at 3 rfl, ?_⟩)
          simp only [List.setIfInBounds_toArray, List.set_cons_zero, List.set_cons_succ]
          refine wpAnyH_done (by kernel_rfl) ?_ _
          have hm76 : Mm w w74 [(g2, w8 N, 40), (g5, ws 0, 36), (g9, rowOf .u64 (mixw ((2 * rs N (m + 1) + bit N m) + MM - LL) (2 * rs N (m + 1) + bit N m) (i + 1)) 4, 36), (g57, ws LL, 36)] := by rw [show (rowOf .u64 (mixw ((2 * rs N (m + 1) + bit N m) + MM - LL) (2 * rs N (m + 1) + bit N m) (i + 1)) 4 : Array Value) = rowOf .u64 (up (mixw ((2 * rs N (m + 1) + bit N m) + MM - LL) (2 * rs N (m + 1) + bit N m) i) i (wd ((2 * rs N (m + 1) + bit N m) + MM - LL) i)) 4 from by rw [mixw_up]]; exact hm75
          refine blk_n ?_
          refine then_n (hK71 _ _ ?_)
          refine wp_region_lit ?_
          refine lst (wanted_none rfl) (w_value 52 (.int .i64 ((i : Nat) : Int)) rfl (run_mv rfl rfl) ?_)
          simp only [List.setIfInBounds_toArray, List.set_cons_zero, List.set_cons_succ]
          refine lst (wanted_none rfl) (w_value 53 (.int .i64 (((i + 1) : Nat) : Int)) rfl (r_add i 1 (show (i + 1) < 9223372036854775808 from by omega) rfl rfl rfl) ?_)
          simp only [List.setIfInBounds_toArray, List.set_cons_zero, List.set_cons_succ]
          refine lst (wanted_none rfl) (w_value 9 (.int .i64 (((i + 1) : Nat) : Int)) rfl (run_as rfl rfl) ?_)
          simp only [List.setIfInBounds_toArray, List.set_cons_zero, List.set_cons_succ]
          refine wpList_nil ?_
          refine then_n (hR67 _ _ _ ⟨(i + 1), (fun qq => List.getD [.int .i64 ((i : Nat) : Int), .bool (decide (i < 4)), .int .i64 ((i : Nat) : Int), .int .i64 (((i + 1) : Nat) : Int), .tuple #[.int .u64 (((wd ((2 * rs N (m + 1) + bit N m) + MM - LL) i) : Nat) : Int), .int .u64 (((bo (2 * rs N (m + 1) + bit N m) LL (i + 1)) : Nat) : Int)], .int .i64 ((i : Nat) : Int), .int .i64 ((i : Nat) : Int), .pointer (some ⟨g9, i, none⟩), .int .u64 (((mixw ((2 * rs N (m + 1) + bit N m) + MM - LL) (2 * rs N (m + 1) + bit N m) i) i : Nat) : Int), .int .i64 ((i : Nat) : Int), .pointer (some ⟨g57, i, none⟩), .int .u64 (((wd LL) i : Nat) : Int), .int .u64 (((bo (2 * rs N (m + 1) + bit N m) LL i) : Nat) : Int), .tuple #[.int .u64 (((wd ((2 * rs N (m + 1) + bit N m) + MM - LL) i) : Nat) : Int), .int .u64 (((bo (2 * rs N (m + 1) + bit N m) LL (i + 1)) : Nat) : Int)], .int .u64 (((wd ((2 * rs N (m + 1) + bit N m) + MM - LL) i) : Nat) : Int), .int .u64 (((bo (2 * rs N (m + 1) + bit N m) LL (i + 1)) : Nat) : Int), .pointer (some ⟨g9, i, none⟩)] qq undef), rfl, (by omega), rfl, hm76⟩ ?_)
          omega
        · obtain rfl : i = 4 := by omega
          have hm77 : Mm w w65 [(g2, w8 N, 40), (g5, ws 0, 36), (g9, ws (rs N m), 36), (g57, ws LL, 36)] := by rw [show (ws (rs N m) : Array Value) = rowOf .u64 (mixw ((2 * rs N (m + 1) + bit N m) + MM - LL) (2 * rs N (m + 1) + bit N m) 4) 4 from by rw [rs_ge N m hc53, mixw_all]]; exact hm66
          refine wp_exit ?_
          refine then_x ?_
          refine then_x ?_
          refine blk_x ?_
          refine blk_n ?_
          refine then_n (hK21 _ _ ?_)
          refine wp_region_lit ?_
          refine lst (wanted_none rfl) (w_value 12 (.int .i64 ((m : Nat) : Int)) rfl (run_mv rfl rfl) ?_)
          simp only [List.setIfInBounds_toArray, List.set_cons_zero, List.set_cons_succ]
          refine lst (wanted_none rfl) (w_value 13 (.int .i64 (((m : Nat) : Int) - 1)) rfl (r_subZ ((m : Nat) : Int) ((1 : Nat) : Int) _ (IntWalk.i64_in _ (by omega)) rfl rfl rfl) ?_)
          simp only [List.setIfInBounds_toArray, List.set_cons_zero, List.set_cons_succ]
          refine lst (wanted_none rfl) (w_value 4 (.int .i64 (((m : Nat) : Int) - 1)) rfl (run_as rfl rfl) ?_)
          simp only [List.setIfInBounds_toArray, List.set_cons_zero, List.set_cons_succ]
          refine wpList_nil ?_
          have hm78 : Mm w w65 [(g2, w8 N, 40), (g5, ws 0, 36), (g9, ws (rs N m), 36)] := Mm.pre (m := [(g57, ws LL, 36)]) hm77
          refine then_n (hR17 _ _ _ ⟨m, _, (fun qq => bif Nat.blt qq 24 then List.getD [.int .u64 (((bit N m) : Nat) : Int), .int .i64 0, .pointer (some ⟨g57, 0, none⟩), .int .u64 (((bo (2 * rs N (m + 1) + bit N m) LL 4) : Nat) : Int), .int .i64 4, .int .i64 ((m : Nat) : Int), .bool (decide (((0 : Nat) : Int) ≤ ((m : Nat) : Int))), .int .i64 ((m : Nat) : Int), .int .i64 (((m : Nat) : Int) - 1), .int .i64 ((m : Nat) : Int), .int .i64 (((m / 64) : Nat) : Int), .pointer (some ⟨g2, (m / 64), none⟩), .int .u64 (((wd N) (m / 64) : Nat) : Int), .int .i64 ((m : Nat) : Int), .int .u64 ((m : Nat) : Int), .int .u64 (((m % 64) : Nat) : Int), .int .u64 (((((wd N) (m / 64)) / 2 ^ (m % 64)) : Nat) : Int), .int .u64 (((bit N m) : Nat) : Int), .int .i64 0, .bool (decide (0 < 0)), u1 2, u1 3, u1 4, u1 5] qq undef else bif Nat.blt qq 48 then List.getD [u1 6, u1 7, u1 8, u1 9, u1 10, u1 11, u1 12, u1 13, u1 14, u1 15, .pointer (some ⟨g9, 0, none⟩), .int .u64 (((shw (rs N (m + 1)) (bit N m) 0) 0 : Nat) : Int), .int .u64 (((((shw (rs N (m + 1)) (bit N m) 0) 0) * 2 ^ 1 % 18446744073709551616) : Nat) : Int), .int .u64 (((bit N m) : Nat) : Int), .int .u64 (((shw (rs N (m + 1)) (bit N m) 0 0 * 2 ^ 1 % 18446744073709551616 + bit N m) : Nat) : Int), .pointer (some ⟨g9, 0, none⟩), .agg (ws (2 * rs N (m + 1) + bit N m)), .agg (ws LL), .bool (decide ((2 * rs N (m + 1) + bit N m) < LL)), .bool (decide (¬ ((2 * rs N (m + 1) + bit N m) < LL))), .agg (ws LL), .int .i64 4, .bool (decide (4 < 4)), u2 2] (qq - 24) undef else List.getD [u2 3, u2 4, u2 5, u2 6, u2 7, u2 8, u2 9, u2 10, u2 11, u2 12, u2 13, u2 14, u2 15, u2 16] (qq - 48) undef), rfl, (by omega), rfl, rfl, hm78⟩ ?_)
          omega
      · have hm79 : Mm w w51 [(g2, w8 N, 40), (g5, ws 0, 36), (g9, ws (rs N m), 36)] := by rw [show (ws (rs N m) : Array Value) = ws (2 * rs N (m + 1) + bit N m) from rs_less N m (Classical.not_not.1 hc53)]; exact hm52
        refine wp_skip ?_
        refine blk_n ?_
        refine then_n (hK21 _ _ ?_)
        refine wp_region_lit ?_
        refine lst (wanted_none rfl) (w_value 12 (.int .i64 ((m : Nat) : Int)) rfl (run_mv rfl rfl) ?_)
        simp only [List.setIfInBounds_toArray, List.set_cons_zero, List.set_cons_succ]
        refine lst (wanted_none rfl) (w_value 13 (.int .i64 (((m : Nat) : Int) - 1)) rfl (r_subZ ((m : Nat) : Int) ((1 : Nat) : Int) _ (IntWalk.i64_in _ (by omega)) rfl rfl rfl) ?_)
        simp only [List.setIfInBounds_toArray, List.set_cons_zero, List.set_cons_succ]
        refine lst (wanted_none rfl) (w_value 4 (.int .i64 (((m : Nat) : Int) - 1)) rfl (run_as rfl rfl) ?_)
        simp only [List.setIfInBounds_toArray, List.set_cons_zero, List.set_cons_succ]
        refine wpList_nil ?_
        refine then_n (hR17 _ _ _ ⟨m, _, (fun qq => bif Nat.blt qq 24 then List.getD [.int .u64 (((bit N m) : Nat) : Int), .int .i64 0, u0 2, u0 3, u0 4, .int .i64 ((m : Nat) : Int), .bool (decide (((0 : Nat) : Int) ≤ ((m : Nat) : Int))), .int .i64 ((m : Nat) : Int), .int .i64 (((m : Nat) : Int) - 1), .int .i64 ((m : Nat) : Int), .int .i64 (((m / 64) : Nat) : Int), .pointer (some ⟨g2, (m / 64), none⟩), .int .u64 (((wd N) (m / 64) : Nat) : Int), .int .i64 ((m : Nat) : Int), .int .u64 ((m : Nat) : Int), .int .u64 (((m % 64) : Nat) : Int), .int .u64 (((((wd N) (m / 64)) / 2 ^ (m % 64)) : Nat) : Int), .int .u64 (((bit N m) : Nat) : Int), .int .i64 0, .bool (decide (0 < 0)), u1 2, u1 3, u1 4, u1 5] qq undef else bif Nat.blt qq 48 then List.getD [u1 6, u1 7, u1 8, u1 9, u1 10, u1 11, u1 12, u1 13, u1 14, u1 15, .pointer (some ⟨g9, 0, none⟩), .int .u64 (((shw (rs N (m + 1)) (bit N m) 0) 0 : Nat) : Int), .int .u64 (((((shw (rs N (m + 1)) (bit N m) 0) 0) * 2 ^ 1 % 18446744073709551616) : Nat) : Int), .int .u64 (((bit N m) : Nat) : Int), .int .u64 (((shw (rs N (m + 1)) (bit N m) 0 0 * 2 ^ 1 % 18446744073709551616 + bit N m) : Nat) : Int), .pointer (some ⟨g9, 0, none⟩), .agg (ws (2 * rs N (m + 1) + bit N m)), .agg (ws LL), .bool (decide ((2 * rs N (m + 1) + bit N m) < LL)), .bool (decide (¬ ((2 * rs N (m + 1) + bit N m) < LL))), u0 44, u0 45, u0 46, u0 47] (qq - 24) undef else List.getD [u0 48, u0 49, u0 50, u0 51, u0 52, u0 53, u0 54, u0 55, u0 56, u0 57, u0 58, u0 59, u0 60, u0 61] (qq - 48) undef), rfl, (by omega), rfl, rfl, hm79⟩ ?_)
        omega
  · obtain rfl : k = 0 := by omega
    have hm80 : Mm w w15 [(g2, w8 N, 40), (g5, ws 0, 36), (g9, ws (N % LL), 36)] := by rw [show (ws (N % LL) : Array Value) = ws (rs N 0) from by rw [rs_end]]; exact hm16
    refine wp_exit ?_
    refine then_x ?_
    refine then_x ?_
    refine blk_x ?_
    refine then_n (hK12 _ _ ?_)
    refine wp_seq_k (fun K81 hK81 => ?_)
    refine wp_region_lit ?_
    refine lst (wanted_none rfl) (w_value 67 (.agg (ws (N % LL))) rfl (run_row rfl rfl (hm80.at 2 rfl) Try.underlying36 rfl (by rw [ws_sz]; exact info_x)) ?_)
    simp only [List.setIfInBounds_toArray, List.set_cons_zero, List.set_cons_succ]
    refine lst (wanted_none rfl) (m_store 1 36 _ _ (ws (N % LL)) (old := ws 0) hm80 rfl rfl rfl rfl rfl (by rw [ws_sz]; exact info_x) ((ws_sz _).trans (ws_sz _).symm) (ws_one _) (fun w82 (hm83 : Mm w w82 [(g2, w8 N, 40), (g5, ws (N % LL), 36), (g9, ws (N % LL), 36)]) => ?_))
    refine wpList_nil ?_
    refine then_n (hK81 _ _ ?_)
    refine wp_ret ?_
    exact ⟨rfl, .agg (ws (N % LL)), res_c rfl rfl (hm83.at 1 rfl) Try.underlying36 rfl (by rw [ws_sz]; exact info_x), ⟨rfl, hm83.below⟩⟩
end Go.Proofs.Ytcemcnbhnedaaaa.Fld
