/- Layer 4: products. -/
import Derived.Test.YtcemcnbhnedaaaaScA
namespace Go.Proofs.Ytcemcnbhnedaaaa.Fld
open Go.RowKit Go.Shelf
open Go.Proofs.Ytcemcnbhnedaaaa.Num (val up val_congr val_add val_lt val_up val_digits val_word)
open Go.Proofs.Ytcemcnbhnedaaaa.Arr Go.Proofs.Ytcemcnbhnedaaaa.Sym Go.Proofs.Ytcemcnbhnedaaaa.Sx

theorem mul64_b (x y : Nat) (hx : x < 18446744073709551616) (hy : y < 18446744073709551616) (w : World) :
    Calls Try.prog 26 #[.int .u64 x, .int .u64 y] w fun e w' => e = .returned (.tuple #[.int .u64 ((x * y / 18446744073709551616 : Nat) : Int), .int .u64 ((x * y % 18446744073709551616 : Nat) : Int)]) ∧ Below w.heap.size w w' :=
  (mul64 x y hx hy w).mono fun _ _ h => ⟨h.1, h.2 ▸ Below.refl _ _⟩
theorem run_b4 {o : Oper} {a : Act} {w : World} {x0 x1 x2 x3 : Operand} (m n k : Nat) (hk : ∀ j, wd n j = wd m (k + j)) (ho : o.op = .build 37 #[(0, x0), (1, x1), (2, x2), (3, x3)])
    (h0 : a.eval x0 = .int .u64 (wd m (k + 0) : Int)) (h1 : a.eval x1 = .int .u64 (wd m (k + 1) : Int)) (h2 : a.eval x2 = .int .u64 (wd m (k + 2) : Int)) (h3 : a.eval x3 = .int .u64 (wd m (k + 3) : Int)) :
    (execOp a.eval o).run Try.prog w = .ok (.value (.agg (ws n))) w := by
  rw [← hk] at h0 h1 h2 h3
  unfold execOp
  simp only [ho]
  generalize a.eval = f at *
  simp [h0, h1, h2, h3, go_sem, ws, rowOf, List.range, List.range.loop]
theorem run_b8 {o : Oper} {a : Act} {w : World} {x0 x1 x2 x3 : Operand} (n : Nat) (hn : n < MM) (ho : o.op = .build 40 #[(0, x0), (1, x1), (2, x2), (3, x3)])
    (h0 : a.eval x0 = .int .u64 (wd n 0 : Int)) (h1 : a.eval x1 = .int .u64 (wd n 1 : Int)) (h2 : a.eval x2 = .int .u64 (wd n 2 : Int)) (h3 : a.eval x3 = .int .u64 (wd n 3 : Int)) :
    (execOp a.eval o).run Try.prog w = .ok (.value (.agg (w8 n))) w := by
  have e : w8 n = #[.int .u64 (wd n 0 : Int), .int .u64 (wd n 1 : Int), .int .u64 (wd n 2 : Int), .int .u64 (wd n 3 : Int), .int .u64 0, .int .u64 0, .int .u64 0, .int .u64 0] := by
    show #[Value.int .u64 (wd n 0 : Int), .int .u64 (wd n 1 : Int), .int .u64 (wd n 2 : Int), .int .u64 (wd n 3 : Int), .int .u64 (wd n 4 : Int), .int .u64 (wd n 5 : Int), .int .u64 (wd n 6 : Int), .int .u64 (wd n 7 : Int)] = _
    rw [wd_big n 4 hn (by decide), wd_big n 5 hn (by decide), wd_big n 6 hn (by decide), wd_big n 7 hn (by decide)]
    rfl
  rw [e]
  unfold execOp
  simp only [ho]
  generalize a.eval = f at *
  simp [h0, h1, h2, h3, go_sem]
set_option maxHeartbeats 4000000 in
set_option maxRecDepth 100000 in
theorem product_any (a b c : Nat) (ha : a < MM) (hb : b < MM) (hc : c < MM) (w : World) : Calls Try.prog 25 #[.agg (ws a), .agg (ws b), .agg (ws c)] w (fun e w' => e = .returned (.tuple #[.agg (ws (a * b + c)), .agg (ws ((a * b + c) / MM))]) ∧ Below w.heap.size w w') := by
  go_enter Try.func25, Try.ntmps25
  have hm0 := Mm.nil w
  refine wp_seq_k (fun K1 hK1 => ?_)
  refine wp_region_lit ?_
  refine lst (wanted_none rfl) (m_alloc (c := ws a) (T := 37) hm0 3 rfl (run_box rfl rfl) (fun g2 w3 (hm4 : Mm w w3 [(g2, ws a, 37)]) => ?_))
  simp only [List.setIfInBounds_toArray, List.set_cons_zero, List.set_cons_succ]
  refine lst (wanted_none rfl) (m_alloc (c := ws b) (T := 37) hm4 4 rfl (run_box rfl rfl) (fun g5 w6 (hm7 : Mm w w6 [(g2, ws a, 37), (g5, ws b, 37)]) => ?_))
  simp only [List.setIfInBounds_toArray, List.set_cons_zero, List.set_cons_succ]
  refine lst (wanted_none rfl) (m_alloc (c := ws c) (T := 37) hm7 5 rfl (run_box rfl rfl) (fun g8 w9 (hm10 : Mm w w9 [(g2, ws a, 37), (g5, ws b, 37), (g8, ws c, 37)]) => ?_))
  simp only [List.setIfInBounds_toArray, List.set_cons_zero, List.set_cons_succ]
  refine lst (wanted_none rfl) (m_alloc (c := ws 0) (T := 37) hm10 6 rfl (al_W rfl) (fun g11 w12 (hm13 : Mm w w12 [(g2, ws a, 37), (g5, ws b, 37), (g8, ws c, 37), (g11, ws 0, 37)]) => ?_))
  simp only [List.setIfInBounds_toArray, List.set_cons_zero, List.set_cons_succ]
  refine lst (wanted_none rfl) (m_alloc (c := ws 0) (T := 37) hm13 7 rfl (al_W rfl) (fun g14 w15 (hm16 : Mm w w15 [(g2, ws a, 37), (g5, ws b, 37), (g8, ws c, 37), (g11, ws 0, 37), (g14, ws 0, 37)]) => ?_))
  simp only [List.setIfInBounds_toArray, List.set_cons_zero, List.set_cons_succ]
  refine wpList_nil ?_
  refine then_n (hK1 _ _ ?_)
  refine wp_seq_k (fun K17 hK17 => ?_)
  refine wp_region_lit ?_
  refine lst (wanted_none rfl) (w_value 16 (.pointer (some ⟨g8, 0, none⟩)) rfl (r_ix g8 0 (by decide) Try.underlying37 one_u64 rfl rfl rfl) ?_)
  simp only [List.setIfInBounds_toArray, List.set_cons_zero, List.set_cons_succ]
  refine lst (wanted_none rfl) (w_value 17 (.int .u64 (((wd c) 0 : Nat) : Int)) rfl (r_cell (f := (wd c)) (n := 4) g8 0 (by decide) (hm16.at 2 rfl) Try.underlying35 rfl rfl) ?_)
  simp only [List.setIfInBounds_toArray, List.set_cons_zero, List.set_cons_succ]
  refine lst (wanted_none rfl) (w_value 18 (.pointer (some ⟨g8, 1, none⟩)) rfl (r_ix g8 1 (by decide) Try.underlying37 one_u64 rfl rfl rfl) ?_)
  simp only [List.setIfInBounds_toArray, List.set_cons_zero, List.set_cons_succ]
  refine lst (wanted_none rfl) (w_value 19 (.int .u64 (((wd c) 1 : Nat) : Int)) rfl (r_cell (f := (wd c)) (n := 4) g8 1 (by decide) (hm16.at 2 rfl) Try.underlying35 rfl rfl) ?_)
  simp only [List.setIfInBounds_toArray, List.set_cons_zero, List.set_cons_succ]
  refine lst (wanted_none rfl) (w_value 20 (.pointer (some ⟨g8, 2, none⟩)) rfl (r_ix g8 2 (by decide) Try.underlying37 one_u64 rfl rfl rfl) ?_)
  simp only [List.setIfInBounds_toArray, List.set_cons_zero, List.set_cons_succ]
  refine lst (wanted_none rfl) (w_value 21 (.int .u64 (((wd c) 2 : Nat) : Int)) rfl (r_cell (f := (wd c)) (n := 4) g8 2 (by decide) (hm16.at 2 rfl) Try.underlying35 rfl rfl) ?_)
  simp only [List.setIfInBounds_toArray, List.set_cons_zero, List.set_cons_succ]
  refine lst (wanted_none rfl) (w_value 22 (.pointer (some ⟨g8, 3, none⟩)) rfl (r_ix g8 3 (by decide) Try.underlying37 one_u64 rfl rfl rfl) ?_)
  simp only [List.setIfInBounds_toArray, List.set_cons_zero, List.set_cons_succ]
  refine lst (wanted_none rfl) (w_value 23 (.int .u64 (((wd c) 3 : Nat) : Int)) rfl (r_cell (f := (wd c)) (n := 4) g8 3 (by decide) (hm16.at 2 rfl) Try.underlying35 rfl rfl) ?_)
  simp only [List.setIfInBounds_toArray, List.set_cons_zero, List.set_cons_succ]
  refine lst (wanted_none rfl) (w_value 24 (.agg (w8 c)) rfl (run_b8 c hc rfl rfl rfl rfl rfl) ?_)
  simp only [List.setIfInBounds_toArray, List.set_cons_zero, List.set_cons_succ]
  refine lst (wanted_none rfl) (m_alloc (c := w8 0) (T := 40) hm16 8 rfl (al_8 rfl) (fun g18 w19 (hm20 : Mm w w19 [(g2, ws a, 37), (g5, ws b, 37), (g8, ws c, 37), (g11, ws 0, 37), (g14, ws 0, 37), (g18, w8 0, 40)]) => ?_))
  simp only [List.setIfInBounds_toArray, List.set_cons_zero, List.set_cons_succ]
  refine lst (wanted_none rfl) (m_store 5 40 _ _ (w8 c) (old := w8 0) hm20 rfl rfl rfl rfl rfl (by rw [w8_sz]; exact info_8) ((w8_sz _).trans (w8_sz _).symm) (w8_one _) (fun w21 (hm22 : Mm w w21 [(g2, ws a, 37), (g5, ws b, 37), (g8, ws c, 37), (g11, ws 0, 37), (g14, ws 0, 37), (g18, w8 c, 40)]) => ?_))
  refine wpList_nil ?_
  refine then_n (hK17 _ _ ?_)
  refine wp_seq_k (fun K23 hK23 => ?_)
  refine wp_seq_k (fun K24 hK24 => ?_)
  refine wp_region_lit ?_
  refine lst (wanted_none rfl) (w_value 9 (.int .i64 0) rfl (run_as rfl rfl) ?_)
  simp only [List.setIfInBounds_toArray, List.set_cons_zero, List.set_cons_succ]
  refine wpList_nil ?_
  refine then_n (hK24 _ _ ?_)
  refine wp_block ?_
  refine wp_loop_n (fun n' a' w' => ∃ (i : Nat) (f : Nat → Nat) (u0 : Nat → Value), n' = 4 - i ∧ (i ≤ 4) ∧ (Prc a b c i 0 0 f) ∧ a' = ⟨#[.agg (ws a), .agg (ws b), .agg (ws c), .pointer (some ⟨g2, 0, none⟩), .pointer (some ⟨g5, 0, none⟩), .pointer (some ⟨g8, 0, none⟩), .pointer (some ⟨g11, 0, none⟩), .pointer (some ⟨g14, 0, none⟩), .pointer (some ⟨g18, 0, none⟩), .int .i64 ((i : Nat) : Int), u0 0, u0 1, u0 2, u0 3, u0 4, u0 5, .pointer (some ⟨g8, 0, none⟩), .int .u64 (((wd c) 0 : Nat) : Int), .pointer (some ⟨g8, 1, none⟩), .int .u64 (((wd c) 1 : Nat) : Int), .pointer (some ⟨g8, 2, none⟩), .int .u64 (((wd c) 2 : Nat) : Int), .pointer (some ⟨g8, 3, none⟩), .int .u64 (((wd c) 3 : Nat) : Int), .agg (w8 c), u0 6, u0 7, u0 8, u0 9, u0 10, u0 11, u0 12, u0 13, u0 14, u0 15, u0 16, u0 17, u0 18, u0 19, u0 20, u0 21, u0 22, u0 23, u0 24, u0 25, u0 26, u0 27, u0 28, u0 29, u0 30, u0 31, u0 32, u0 33, u0 34, u0 35, u0 36, u0 37, u0 38, u0 39, u0 40, u0 41, u0 42, u0 43, u0 44, u0 45, u0 46, u0 47, u0 48, u0 49, u0 50, u0 51, u0 52, u0 53, u0 54, undef, undef, undef, undef, undef, undef, undef, undef, undef, undef, undef, undef, undef, undef, undef, undef, undef, undef], []⟩ ∧ Mm w w' [(g2, ws a, 37), (g5, ws b, 37), (g8, ws c, 37), (g11, ws 0, 37), (g14, ws 0, 37), (g18, rowOf .u64 f 8, 40)]) ⟨0, (wd c), (fun qq => bif Nat.blt qq 24 then List.getD [undef, undef, undef, undef, undef, undef, undef, undef, undef, undef, undef, undef, undef, undef, undef, undef, undef, undef, undef, undef, undef, undef, undef, undef] qq undef else bif Nat.blt qq 48 then List.getD [undef, undef, undef, undef, undef, undef, undef, undef, undef, undef, undef, undef, undef, undef, undef, undef, undef, undef, undef, undef, undef, undef, undef, undef] (qq - 24) undef else List.getD [undef, undef, undef, undef, undef, undef, undef] (qq - 48) undef), rfl, (by omega), (prc_start a b c hc), rfl, hm22⟩ ?_
  clear hm22
  rintro _ _ w25 ⟨i, f, u0, hn0, hi, hp, rfl, hm26⟩ R27 hR27
  refine wp_seq_k (fun K28 hK28 => ?_)
  refine wp_seq_k (fun K29 hK29 => ?_)
  refine wp_region_lit ?_
  refine lst (wanted_none rfl) (w_value 25 (.int .i64 ((i : Nat) : Int)) rfl (run_mv rfl rfl) ?_)
  simp only [List.setIfInBounds_toArray, List.set_cons_zero, List.set_cons_succ]
  refine lst (wanted_none rfl) (w_value 26 (.bool (decide (i < 4))) rfl (r_lss i 4 rfl rfl rfl) ?_)
  simp only [List.setIfInBounds_toArray, List.set_cons_zero, List.set_cons_succ]
  refine wpList_nil ?_
  refine then_n (hK29 _ _ ?_)
  refine cond_d (i < 4) rfl (fun hc30 => ?_) (fun hc30 => ?_)
  · refine wp_skip ?_
    refine then_n (hK28 _ _ ?_)
    refine wp_seq_k (fun K31 hK31 => ?_)
    refine wp_block ?_
    refine wp_seq_k (fun K32 hK32 => ?_)
    refine wp_region_lit ?_
    refine lst (wanted_none rfl) (w_value 10 (.int .u64 0) rfl (run_as rfl rfl) ?_)
    simp only [List.setIfInBounds_toArray, List.set_cons_zero, List.set_cons_succ]
    refine wpList_nil ?_
    refine then_n (hK32 _ _ ?_)
    refine wp_seq_k (fun K33 hK33 => ?_)
    refine wp_seq_k (fun K34 hK34 => ?_)
    refine wp_region_lit ?_
    refine lst (wanted_none rfl) (w_value 11 (.int .i64 0) rfl (run_as rfl rfl) ?_)
    simp only [List.setIfInBounds_toArray, List.set_cons_zero, List.set_cons_succ]
    refine wpList_nil ?_
    refine then_n (hK34 _ _ ?_)
    refine wp_block ?_
    refine wp_loop_n (fun n' a' w' => ∃ (j : Nat) (o : Nat) (f2 : Nat → Nat) (u1 : Nat → Value), n' = 4 - j ∧ (j ≤ 4) ∧ (Prc a b c i j o f2) ∧ a' = ⟨#[.agg (ws a), .agg (ws b), .agg (ws c), .pointer (some ⟨g2, 0, none⟩), .pointer (some ⟨g5, 0, none⟩), .pointer (some ⟨g8, 0, none⟩), .pointer (some ⟨g11, 0, none⟩), .pointer (some ⟨g14, 0, none⟩), .pointer (some ⟨g18, 0, none⟩), .int .i64 ((i : Nat) : Int), .int .u64 ((o : Nat) : Int), .int .i64 ((j : Nat) : Int), u1 0, u1 1, u1 2, u1 3, .pointer (some ⟨g8, 0, none⟩), .int .u64 (((wd c) 0 : Nat) : Int), .pointer (some ⟨g8, 1, none⟩), .int .u64 (((wd c) 1 : Nat) : Int), .pointer (some ⟨g8, 2, none⟩), .int .u64 (((wd c) 2 : Nat) : Int), .pointer (some ⟨g8, 3, none⟩), .int .u64 (((wd c) 3 : Nat) : Int), .agg (w8 c), .int .i64 ((i : Nat) : Int), .bool (decide (i < 4)), u0 8, u0 9, u1 4, u1 5, u1 6, u1 7, u1 8, u1 9, u1 10, u1 11, u1 12, u1 13, u1 14, u1 15, u1 16, u1 17, u1 18, u1 19, u1 20, u1 21, u1 22, u1 23, u1 24, u1 25, u1 26, u1 27, u1 28, u1 29, u1 30, u1 31, u1 32, u1 33, u1 34, u1 35, u1 36, u1 37, u1 38, u1 39, u1 40, u1 41, u1 42, u1 43, u1 44, u0 51, u0 52, u0 53, u0 54, undef, undef, undef, undef, undef, undef, undef, undef, undef, undef, undef, undef, undef, undef, undef, undef, undef, undef], []⟩ ∧ Mm w w' [(g2, ws a, 37), (g5, ws b, 37), (g8, ws c, 37), (g11, ws 0, 37), (g14, ws 0, 37), (g18, rowOf .u64 f2 8, 40)]) ⟨0, 0, f, (fun qq => bif Nat.blt qq 24 then List.getD [u0 2, u0 3, u0 4, u0 5, u0 10, u0 11, u0 12, u0 13, u0 14, u0 15, u0 16, u0 17, u0 18, u0 19, u0 20, u0 21, u0 22, u0 23, u0 24, u0 25, u0 26, u0 27, u0 28, u0 29] qq undef else List.getD [u0 30, u0 31, u0 32, u0 33, u0 34, u0 35, u0 36, u0 37, u0 38, u0 39, u0 40, u0 41, u0 42, u0 43, u0 44, u0 45, u0 46, u0 47, u0 48, u0 49, u0 50] (qq - 24) undef), rfl, (by omega), hp, rfl, hm26⟩ ?_
    clear hm26
    rintro _ _ w35 ⟨j, o, f2, u1, hn1, hj, hp2, rfl, hm36⟩ R37 hR37
    refine wp_seq_k (fun K38 hK38 => ?_)
    refine wp_seq_k (fun K39 hK39 => ?_)
    refine wp_region_lit ?_
    refine lst (wanted_none rfl) (w_value 29 (.int .i64 ((j : Nat) : Int)) rfl (run_mv rfl rfl) ?_)
    simp only [List.setIfInBounds_toArray, List.set_cons_zero, List.set_cons_succ]
    refine lst (wanted_none rfl) (w_value 30 (.bool (decide (j < 4))) rfl (r_lss j 4 rfl rfl rfl) ?_)
    simp only [List.setIfInBounds_toArray, List.set_cons_zero, List.set_cons_succ]
    refine wpList_nil ?_
    refine then_n (hK39 _ _ ?_)
    refine cond_d (j < 4) rfl (fun hc40 => ?_) (fun hc40 => ?_)
    · refine wp_skip ?_
      refine then_n (hK38 _ _ ?_)
      refine wp_seq_k (fun K41 hK41 => ?_)
      refine wp_block ?_
      refine wp_seq_k (fun K42 hK42 => ?_)
      have hm43 := hm36.drew
      refine wp_region_held_drew (S := fun w' => Sym.Blk w' g2 (ws a) 37 ∧ Sym.Blk w' g5 (ws b) 37) (by kernel_rfl) (⟨hm36.at 0 rfl, hm36.at 1 rfl⟩) (fun _ => ?_)
      generalize w35.drew = w44 at *
      refine Sym.take_at 0 34 (.int .i64 ((i : Nat) : Int)) rfl rfl (by kernel_rfl) (by kernel_rfl) (by kernel_rfl) (fun _ _ _ h => h) (wanted_none rfl) (fun _ hw => run_mv rfl rfl) (⟨hm43.at 0 rfl, hm43.at 1 rfl⟩) ?_
      simp only [List.setIfInBounds_toArray, List.set_cons_zero, List.set_cons_succ]
      refine Sym.take_at 1 35 (.pointer (some ⟨g2, i, none⟩)) rfl rfl (by kernel_rfl) (by kernel_rfl) (by kernel_rfl) (fun _ _ _ h => h) (wanted_none rfl) (fun _ hw => r_ix g2 i (by omega) Try.underlying37 one_u64 rfl rfl rfl) (⟨hm43.at 0 rfl, hm43.at 1 rfl⟩) ?_
      simp only [List.setIfInBounds_toArray, List.set_cons_zero, List.set_cons_succ]
      refine Sym.take_at 2 36 (.int .u64 (((wd a) i : Nat) : Int)) rfl rfl (by kernel_rfl) (by kernel_rfl) (by kernel_rfl) (fun _ _ _ h => h) (wanted_none rfl) (fun _ hw => r_cell (f := (wd a)) (n := 4) g2 i (by omega) hw.1 Try.underlying35 rfl rfl) (⟨hm43.at 0 rfl, hm43.at 1 rfl⟩) ?_
      simp only [List.setIfInBounds_toArray, List.set_cons_zero, List.set_cons_succ]
      refine Sym.take_at 3 37 (.int .i64 ((j : Nat) : Int)) rfl rfl (by kernel_rfl) (by kernel_rfl) (by kernel_rfl) (fun _ _ _ h => h) (wanted_none rfl) (fun _ hw => run_mv rfl rfl) (⟨hm43.at 0 rfl, hm43.at 1 rfl⟩) ?_
      simp only [List.setIfInBounds_toArray, List.set_cons_zero, List.set_cons_succ]
      refine Sym.take_at 4 38 (.pointer (some ⟨g5, j, none⟩)) rfl rfl (by kernel_rfl) (by kernel_rfl) (by kernel_rfl) (fun _ _ _ h => h) (wanted_none rfl) (fun _ hw => r_ix g5 j (by omega) Try.underlying37 one_u64 rfl rfl rfl) (⟨hm43.at 0 rfl, hm43.at 1 rfl⟩) ?_
      simp only [List.setIfInBounds_toArray, List.set_cons_zero, List.set_cons_succ]
      refine Sym.take_at 5 39 (.int .u64 (((wd b) j : Nat) : Int)) rfl rfl (by kernel_rfl) (by kernel_rfl) (by kernel_rfl) (fun _ _ _ h => h) (wanted_none rfl) (fun _ hw => r_cell (f := (wd b)) (n := 4) g5 j (by omega) hw.2 Try.underlying35 rfl rfl) (⟨hm43.at 0 rfl, hm43.at 1 rfl⟩) ?_
      simp only [List.setIfInBounds_toArray, List.set_cons_zero, List.set_cons_succ]
      refine one_ready 6 (by kernel_rfl) ?_
      refine opd rfl (wanted_none rfl) (m_call hm43 40 (.tuple #[.int .u64 (((((wd a) i) * ((wd b) j) / 18446744073709551616) : Nat) : Int), .int .u64 (((((wd a) i) * ((wd b) j) % 18446744073709551616) : Nat) : Int)]) rfl (run_mul64 rfl rfl rfl) (mul64_b _ _ (wd_lt _ _) (wd_lt _ _) _) (fun w45 hm46 => ?_))
      refine ⟨⟨hm46.at 0 rfl, hm46.at 1 rfl⟩, ?_⟩
      simp only [List.setIfInBounds_toArray, List.set_cons_zero, List.set_cons_succ]
      refine Sym.take_at 7 33 (.tuple #[.int .u64 (((((wd a) i) * ((wd b) j) / 18446744073709551616) : Nat) : Int), .int .u64 (((((wd a) i) * ((wd b) j) % 18446744073709551616) : Nat) : Int)]) rfl rfl (by kernel_rfl) (by kernel_rfl) (by kernel_rfl) (fun _ _ _ h => h) (wanted_none rfl) (fun _ hw => run_mv rfl rfl) (⟨hm46.at 0 rfl, hm46.at 1 rfl⟩) ?_
      simp only [List.setIfInBounds_toArray, List.set_cons_zero, List.set_cons_succ]
      refine Sym.take_at 8 41 (.int .u64 (((((wd a) i) * ((wd b) j) / 18446744073709551616) : Nat) : Int)) rfl rfl (by kernel_rfl) (by kernel_rfl) (by kernel_rfl) (fun _ _ _ h => h) (wanted_none rfl) (fun _ hw => run_ex rfl rfl rfl) (⟨hm46.at 0 rfl, hm46.at 1 rfl⟩) ?_
      simp only [List.setIfInBounds_toArray, List.set_cons_zero, List.set_cons_succ]
      refine Sym.take_at 9 42 (.int .u64 (((((wd a) i) * ((wd b) j) % 18446744073709551616) : Nat) : Int)) rfl rfl (by kernel_rfl) (by kernel_rfl) (by kernel_rfl) (fun _ _ _ h => h) (wanted_none rfl) (fun _ hw => run_ex rfl rfl rfl) (⟨hm46.at 0 rfl, hm46.at 1 rfl⟩) ?_
      simp only [List.setIfInBounds_toArray, List.set_cons_zero, List.set_cons_succ]
      refine one_ready 10 (by kernel_rfl) ?_
      refine opd rfl (wanted_none rfl) (w_value 12 (.int .u64 (((((wd a) i) * ((wd b) j) / 18446744073709551616) : Nat) : Int)) rfl (run_as rfl rfl) ⟨⟨hm46.at 0 rfl, hm46.at 1 rfl⟩, ?_⟩)
      simp only [List.setIfInBounds_toArray, List.set_cons_zero, List.set_cons_succ]
      refine one_ready 11 (by kernel_rfl) ?_
      refine opd rfl (wanted_none rfl) (w_value 13 (.int .u64 (((((wd a) i) * ((wd b) j) % 18446744073709551616) : Nat) : Int)) rfl (run_as rfl rfl) ⟨⟨hm46.at 0 rfl, hm46.at 1 rfl⟩, ?_⟩)
      simp only [List.setIfInBounds_toArray, List.set_cons_zero, List.set_cons_succ]
      refine wpAnyH_done (by kernel_rfl) ?_ _
      refine then_n (hK42 _ _ ?_)
      refine wp_seq_k (fun K47 hK47 => ?_)
      refine wp_region_lit ?_
      refine lst (wanted_none rfl) (w_value 44 (.int .u64 (((((wd a) i) * ((wd b) j) % 18446744073709551616) : Nat) : Int)) rfl (run_mv rfl rfl) ?_)
      simp only [List.setIfInBounds_toArray, List.set_cons_zero, List.set_cons_succ]
      refine lst (wanted_none rfl) (w_value 45 (.int .i64 ((i : Nat) : Int)) rfl (run_mv rfl rfl) ?_)
      simp only [List.setIfInBounds_toArray, List.set_cons_zero, List.set_cons_succ]
      refine lst (wanted_none rfl) (w_value 46 (.int .i64 ((j : Nat) : Int)) rfl (run_mv rfl rfl) ?_)
      simp only [List.setIfInBounds_toArray, List.set_cons_zero, List.set_cons_succ]
      refine lst (wanted_none rfl) (w_value 47 (.int .i64 (((i + j) : Nat) : Int)) rfl (r_add i j (show (i + j) < 9223372036854775808 from by omega) rfl rfl rfl) ?_)
      simp only [List.setIfInBounds_toArray, List.set_cons_zero, List.set_cons_succ]
      refine lst (wanted_none rfl) (w_value 48 (.pointer (some ⟨g18, (i + j), none⟩)) rfl (r_ix g18 (i + j) (by omega) Try.underlying40 one_u64 rfl rfl rfl) ?_)
      simp only [List.setIfInBounds_toArray, List.set_cons_zero, List.set_cons_succ]
      refine lst (wanted_none rfl) (w_value 49 (.int .u64 ((f2 (i + j) : Nat) : Int)) rfl (r_cell (f := f2) (n := 8) g18 (i + j) (by omega) (hm46.at 5 rfl) Try.underlying35 rfl rfl) ?_)
      simp only [List.setIfInBounds_toArray, List.set_cons_zero, List.set_cons_succ]
      refine lst (wanted_none rfl) (w_value 50 (.tuple #[.int .u64 (((((((wd a) i) * ((wd b) j) % 18446744073709551616) + (f2 (i + j))) % 18446744073709551616) : Nat) : Int), .int .u64 (((((((wd a) i) * ((wd b) j) % 18446744073709551616) + (f2 (i + j))) / 18446744073709551616) : Nat) : Int)]) rfl (run_add64o (((wd a) i) * ((wd b) j) % 18446744073709551616) (f2 (i + j)) 0 _ _ (Nat.mod_lt _ (by decide)) (hp2.lt _) (by decide) rfl rfl rfl rfl rfl rfl) ?_)
      simp only [List.setIfInBounds_toArray, List.set_cons_zero, List.set_cons_succ]
      refine lst (wanted_none rfl) (w_value 43 (.tuple #[.int .u64 (((((((wd a) i) * ((wd b) j) % 18446744073709551616) + (f2 (i + j))) % 18446744073709551616) : Nat) : Int), .int .u64 (((((((wd a) i) * ((wd b) j) % 18446744073709551616) + (f2 (i + j))) / 18446744073709551616) : Nat) : Int)]) rfl (run_mv rfl rfl) ?_)
      simp only [List.setIfInBounds_toArray, List.set_cons_zero, List.set_cons_succ]
      refine lst (wanted_none rfl) (w_value 51 (.int .u64 (((((((wd a) i) * ((wd b) j) % 18446744073709551616) + (f2 (i + j))) % 18446744073709551616) : Nat) : Int)) rfl (run_ex rfl rfl rfl) ?_)
      simp only [List.setIfInBounds_toArray, List.set_cons_zero, List.set_cons_succ]
      refine lst (wanted_none rfl) (w_value 52 (.int .u64 (((((((wd a) i) * ((wd b) j) % 18446744073709551616) + (f2 (i + j))) / 18446744073709551616) : Nat) : Int)) rfl (run_ex rfl rfl rfl) ?_)
      simp only [List.setIfInBounds_toArray, List.set_cons_zero, List.set_cons_succ]
      refine lst (wanted_none rfl) (w_value 14 (.int .u64 (((((((wd a) i) * ((wd b) j) % 18446744073709551616) + (f2 (i + j))) % 18446744073709551616) : Nat) : Int)) rfl (run_as rfl rfl) ?_)
      simp only [List.setIfInBounds_toArray, List.set_cons_zero, List.set_cons_succ]
      refine lst (wanted_none rfl) (w_value 15 (.int .u64 (((((((wd a) i) * ((wd b) j) % 18446744073709551616) + (f2 (i + j))) / 18446744073709551616) : Nat) : Int)) rfl (run_as rfl rfl) ?_)
      simp only [List.setIfInBounds_toArray, List.set_cons_zero, List.set_cons_succ]
      refine wpList_nil ?_
      refine then_n (hK47 _ _ ?_)
      refine wp_seq_k (fun K48 hK48 => ?_)
      refine wp_region_lit ?_
      refine lst (wanted_none rfl) (w_value 53 (.int .u64 (((((wd a) i) * ((wd b) j) / 18446744073709551616) : Nat) : Int)) rfl (run_mv rfl rfl) ?_)
      simp only [List.setIfInBounds_toArray, List.set_cons_zero, List.set_cons_succ]
      refine lst (wanted_none rfl) (w_value 54 (.int .u64 (((((((wd a) i) * ((wd b) j) % 18446744073709551616) + (f2 (i + j))) / 18446744073709551616) : Nat) : Int)) rfl (run_mv rfl rfl) ?_)
      simp only [List.setIfInBounds_toArray, List.set_cons_zero, List.set_cons_succ]
      refine lst (wanted_none rfl) (w_value 55 (.int .u64 ((((((wd a) i) * ((wd b) j) / 18446744073709551616) + (((((wd a) i) * ((wd b) j) % 18446744073709551616) + (f2 (i + j))) / 18446744073709551616)) : Nat) : Int)) rfl (r_add (((wd a) i) * ((wd b) j) / 18446744073709551616) (((((wd a) i) * ((wd b) j) % 18446744073709551616) + (f2 (i + j))) / 18446744073709551616) (prc_hi hp2) rfl rfl rfl) ?_)
      simp only [List.setIfInBounds_toArray, List.set_cons_zero, List.set_cons_succ]
      refine lst (wanted_none rfl) (w_value 12 (.int .u64 ((((((wd a) i) * ((wd b) j) / 18446744073709551616) + (((((wd a) i) * ((wd b) j) % 18446744073709551616) + (f2 (i + j))) / 18446744073709551616)) : Nat) : Int)) rfl (run_as rfl rfl) ?_)
      simp only [List.setIfInBounds_toArray, List.set_cons_zero, List.set_cons_succ]
      refine wpList_nil ?_
      refine then_n (hK48 _ _ ?_)
      refine wp_seq_k (fun K49 hK49 => ?_)
      refine wp_region_lit ?_
      refine lst (wanted_none rfl) (w_value 57 (.int .u64 (((((((wd a) i) * ((wd b) j) % 18446744073709551616) + (f2 (i + j))) % 18446744073709551616) : Nat) : Int)) rfl (run_mv rfl rfl) ?_)
      simp only [List.setIfInBounds_toArray, List.set_cons_zero, List.set_cons_succ]
      refine lst (wanted_none rfl) (w_value 58 (.int .u64 ((o : Nat) : Int)) rfl (run_mv rfl rfl) ?_)
      simp only [List.setIfInBounds_toArray, List.set_cons_zero, List.set_cons_succ]
      refine lst (wanted_none rfl) (w_value 59 (.tuple #[.int .u64 (((((((((wd a) i) * ((wd b) j) % 18446744073709551616) + (f2 (i + j))) % 18446744073709551616) + o) % 18446744073709551616) : Nat) : Int), .int .u64 (((((((((wd a) i) * ((wd b) j) % 18446744073709551616) + (f2 (i + j))) % 18446744073709551616) + o) / 18446744073709551616) : Nat) : Int)]) rfl (run_add64o (((((wd a) i) * ((wd b) j) % 18446744073709551616) + (f2 (i + j))) % 18446744073709551616) o 0 _ _ (Nat.mod_lt _ (by decide)) hp2.olt (by decide) rfl rfl rfl rfl rfl rfl) ?_)
      simp only [List.setIfInBounds_toArray, List.set_cons_zero, List.set_cons_succ]
      refine lst (wanted_none rfl) (w_value 56 (.tuple #[.int .u64 (((((((((wd a) i) * ((wd b) j) % 18446744073709551616) + (f2 (i + j))) % 18446744073709551616) + o) % 18446744073709551616) : Nat) : Int), .int .u64 (((((((((wd a) i) * ((wd b) j) % 18446744073709551616) + (f2 (i + j))) % 18446744073709551616) + o) / 18446744073709551616) : Nat) : Int)]) rfl (run_mv rfl rfl) ?_)
      simp only [List.setIfInBounds_toArray, List.set_cons_zero, List.set_cons_succ]
      refine lst (wanted_none rfl) (w_value 60 (.int .u64 (((((((((wd a) i) * ((wd b) j) % 18446744073709551616) + (f2 (i + j))) % 18446744073709551616) + o) % 18446744073709551616) : Nat) : Int)) rfl (run_ex rfl rfl rfl) ?_)
      simp only [List.setIfInBounds_toArray, List.set_cons_zero, List.set_cons_succ]
      refine lst (wanted_none rfl) (w_value 61 (.int .u64 (((((((((wd a) i) * ((wd b) j) % 18446744073709551616) + (f2 (i + j))) % 18446744073709551616) + o) / 18446744073709551616) : Nat) : Int)) rfl (run_ex rfl rfl rfl) ?_)
      simp only [List.setIfInBounds_toArray, List.set_cons_zero, List.set_cons_succ]
      refine lst (wanted_none rfl) (w_value 14 (.int .u64 (((((((((wd a) i) * ((wd b) j) % 18446744073709551616) + (f2 (i + j))) % 18446744073709551616) + o) % 18446744073709551616) : Nat) : Int)) rfl (run_as rfl rfl) ?_)
      simp only [List.setIfInBounds_toArray, List.set_cons_zero, List.set_cons_succ]
      refine lst (wanted_none rfl) (w_value 15 (.int .u64 (((((((((wd a) i) * ((wd b) j) % 18446744073709551616) + (f2 (i + j))) % 18446744073709551616) + o) / 18446744073709551616) : Nat) : Int)) rfl (run_as rfl rfl) ?_)
      simp only [List.setIfInBounds_toArray, List.set_cons_zero, List.set_cons_succ]
      refine wpList_nil ?_
      refine then_n (hK49 _ _ ?_)
      refine wp_seq_k (fun K50 hK50 => ?_)
      refine wp_region_lit ?_
      refine lst (wanted_none rfl) (w_value 62 (.int .i64 ((i : Nat) : Int)) rfl (run_mv rfl rfl) ?_)
      simp only [List.setIfInBounds_toArray, List.set_cons_zero, List.set_cons_succ]
      refine lst (wanted_none rfl) (w_value 63 (.int .i64 ((j : Nat) : Int)) rfl (run_mv rfl rfl) ?_)
      simp only [List.setIfInBounds_toArray, List.set_cons_zero, List.set_cons_succ]
      refine lst (wanted_none rfl) (w_value 64 (.int .i64 (((i + j) : Nat) : Int)) rfl (r_add i j (show (i + j) < 9223372036854775808 from by omega) rfl rfl rfl) ?_)
      simp only [List.setIfInBounds_toArray, List.set_cons_zero, List.set_cons_succ]
      refine lst (wanted_none rfl) (w_value 65 (.int .u64 (((((((((wd a) i) * ((wd b) j) % 18446744073709551616) + (f2 (i + j))) % 18446744073709551616) + o) % 18446744073709551616) : Nat) : Int)) rfl (run_mv rfl rfl) ?_)
      simp only [List.setIfInBounds_toArray, List.set_cons_zero, List.set_cons_succ]
      refine lst (wanted_none rfl) (w_value 66 (.pointer (some ⟨g18, (i + j), none⟩)) rfl (r_ix g18 (i + j) (by omega) Try.underlying40 one_u64 rfl rfl rfl) ?_)
      simp only [List.setIfInBounds_toArray, List.set_cons_zero, List.set_cons_succ]
      refine lst (wanted_none rfl) (m_put 5 (new := rowOf .u64 (up f2 (i + j) (((((((wd a) i) * ((wd b) j) % 18446744073709551616) + (f2 (i + j))) % 18446744073709551616) + o) % 18446744073709551616)) 8) (i + j) (.int .u64 (((((((((wd a) i) * ((wd b) j) % 18446744073709551616) + (f2 (i + j))) % 18446744073709551616) + o) % 18446744073709551616) : Nat) : Int)) (old := rowOf .u64 f2 8) hm46 rfl rfl (p_cell (n := 8) (f := f2) g18 (i + j) (((((((wd a) i) * ((wd b) j) % 18446744073709551616) + (f2 (i + j))) % 18446744073709551616) + o) % 18446744073709551616) (by omega) (hm46.at 5 rfl) rfl one_u64 rfl rfl) (rowOf_set _ _ _ _ _) (fun w51 (hm52 : Mm w w51 [(g2, ws a, 37), (g5, ws b, 37), (g8, ws c, 37), (g11, ws 0, 37), (g14, ws 0, 37), (g18, rowOf .u64 (up f2 (i + j) (((((((wd a) i) * ((wd b) j) % 18446744073709551616) + (f2 (i + j))) % 18446744073709551616) + o) % 18446744073709551616)) 8, 40)]) => ?_))
      refine wpList_nil ?_
      refine then_n (hK50 _ _ ?_)
      refine wp_region_lit ?_
      refine lst (wanted_none rfl) (w_value 67 (.int .u64 ((((((wd a) i) * ((wd b) j) / 18446744073709551616) + (((((wd a) i) * ((wd b) j) % 18446744073709551616) + (f2 (i + j))) / 18446744073709551616)) : Nat) : Int)) rfl (run_mv rfl rfl) ?_)
      simp only [List.setIfInBounds_toArray, List.set_cons_zero, List.set_cons_succ]
      refine lst (wanted_none rfl) (w_value 68 (.int .u64 (((((((((wd a) i) * ((wd b) j) % 18446744073709551616) + (f2 (i + j))) % 18446744073709551616) + o) / 18446744073709551616) : Nat) : Int)) rfl (run_mv rfl rfl) ?_)
      simp only [List.setIfInBounds_toArray, List.set_cons_zero, List.set_cons_succ]
      refine lst (wanted_none rfl) (w_value 69 (.int .u64 (((((((wd a) i) * ((wd b) j) / 18446744073709551616) + (((((wd a) i) * ((wd b) j) % 18446744073709551616) + (f2 (i + j))) / 18446744073709551616)) + (((((((wd a) i) * ((wd b) j) % 18446744073709551616) + (f2 (i + j))) % 18446744073709551616) + o) / 18446744073709551616)) : Nat) : Int)) rfl (r_add ((((wd a) i) * ((wd b) j) / 18446744073709551616) + (((((wd a) i) * ((wd b) j) % 18446744073709551616) + (f2 (i + j))) / 18446744073709551616)) (((((((wd a) i) * ((wd b) j) % 18446744073709551616) + (f2 (i + j))) % 18446744073709551616) + o) / 18446744073709551616) (prc_over hp2 (by omega) (by omega)) rfl rfl rfl) ?_)
      simp only [List.setIfInBounds_toArray, List.set_cons_zero, List.set_cons_succ]
      refine lst (wanted_none rfl) (w_value 10 (.int .u64 (((((((wd a) i) * ((wd b) j) / 18446744073709551616) + (((((wd a) i) * ((wd b) j) % 18446744073709551616) + (f2 (i + j))) / 18446744073709551616)) + (((((((wd a) i) * ((wd b) j) % 18446744073709551616) + (f2 (i + j))) % 18446744073709551616) + o) / 18446744073709551616)) : Nat) : Int)) rfl (run_as rfl rfl) ?_)
      simp only [List.setIfInBounds_toArray, List.set_cons_zero, List.set_cons_succ]
      refine wpList_nil ?_
      refine blk_n ?_
      refine then_n (hK41 _ _ ?_)
      refine wp_region_lit ?_
      refine lst (wanted_none rfl) (w_value 31 (.int .i64 ((j : Nat) : Int)) rfl (run_mv rfl rfl) ?_)
      simp only [List.setIfInBounds_toArray, List.set_cons_zero, List.set_cons_succ]
      refine lst (wanted_none rfl) (w_value 32 (.int .i64 (((j + 1) : Nat) : Int)) rfl (r_add j 1 (show (j + 1) < 9223372036854775808 from by omega) rfl rfl rfl) ?_)
      simp only [List.setIfInBounds_toArray, List.set_cons_zero, List.set_cons_succ]
      refine lst (wanted_none rfl) (w_value 11 (.int .i64 (((j + 1) : Nat) : Int)) rfl (run_as rfl rfl) ?_)
      simp only [List.setIfInBounds_toArray, List.set_cons_zero, List.set_cons_succ]
      refine wpList_nil ?_
      refine then_n (hR37 _ _ _ ⟨(j + 1), _, _, (fun qq => bif Nat.blt qq 24 then List.getD [.int .u64 ((((((wd a) i) * ((wd b) j) / 18446744073709551616) + (((((wd a) i) * ((wd b) j) % 18446744073709551616) + (f2 (i + j))) / 18446744073709551616)) : Nat) : Int), .int .u64 (((((wd a) i) * ((wd b) j) % 18446744073709551616) : Nat) : Int), .int .u64 (((((((((wd a) i) * ((wd b) j) % 18446744073709551616) + (f2 (i + j))) % 18446744073709551616) + o) % 18446744073709551616) : Nat) : Int), .int .u64 (((((((((wd a) i) * ((wd b) j) % 18446744073709551616) + (f2 (i + j))) % 18446744073709551616) + o) / 18446744073709551616) : Nat) : Int), .int .i64 ((j : Nat) : Int), .bool (decide (j < 4)), .int .i64 ((j : Nat) : Int), .int .i64 (((j + 1) : Nat) : Int), .tuple #[.int .u64 (((((wd a) i) * ((wd b) j) / 18446744073709551616) : Nat) : Int), .int .u64 (((((wd a) i) * ((wd b) j) % 18446744073709551616) : Nat) : Int)], .int .i64 ((i : Nat) : Int), .pointer (some ⟨g2, i, none⟩), .int .u64 (((wd a) i : Nat) : Int), .int .i64 ((j : Nat) : Int), .pointer (some ⟨g5, j, none⟩), .int .u64 (((wd b) j : Nat) : Int), .tuple #[.int .u64 (((((wd a) i) * ((wd b) j) / 18446744073709551616) : Nat) : Int), .int .u64 (((((wd a) i) * ((wd b) j) % 18446744073709551616) : Nat) : Int)], .int .u64 (((((wd a) i) * ((wd b) j) / 18446744073709551616) : Nat) : Int), .int .u64 (((((wd a) i) * ((wd b) j) % 18446744073709551616) : Nat) : Int), .tuple #[.int .u64 (((((((wd a) i) * ((wd b) j) % 18446744073709551616) + (f2 (i + j))) % 18446744073709551616) : Nat) : Int), .int .u64 (((((((wd a) i) * ((wd b) j) % 18446744073709551616) + (f2 (i + j))) / 18446744073709551616) : Nat) : Int)], .int .u64 (((((wd a) i) * ((wd b) j) % 18446744073709551616) : Nat) : Int), .int .i64 ((i : Nat) : Int), .int .i64 ((j : Nat) : Int), .int .i64 (((i + j) : Nat) : Int), .pointer (some ⟨g18, (i + j), none⟩)] qq undef else List.getD [.int .u64 ((f2 (i + j) : Nat) : Int), .tuple #[.int .u64 (((((((wd a) i) * ((wd b) j) % 18446744073709551616) + (f2 (i + j))) % 18446744073709551616) : Nat) : Int), .int .u64 (((((((wd a) i) * ((wd b) j) % 18446744073709551616) + (f2 (i + j))) / 18446744073709551616) : Nat) : Int)], .int .u64 (((((((wd a) i) * ((wd b) j) % 18446744073709551616) + (f2 (i + j))) % 18446744073709551616) : Nat) : Int), .int .u64 (((((((wd a) i) * ((wd b) j) % 18446744073709551616) + (f2 (i + j))) / 18446744073709551616) : Nat) : Int), .int .u64 (((((wd a) i) * ((wd b) j) / 18446744073709551616) : Nat) : Int), .int .u64 (((((((wd a) i) * ((wd b) j) % 18446744073709551616) + (f2 (i + j))) / 18446744073709551616) : Nat) : Int), .int .u64 ((((((wd a) i) * ((wd b) j) / 18446744073709551616) + (((((wd a) i) * ((wd b) j) % 18446744073709551616) + (f2 (i + j))) / 18446744073709551616)) : Nat) : Int), .tuple #[.int .u64 (((((((((wd a) i) * ((wd b) j) % 18446744073709551616) + (f2 (i + j))) % 18446744073709551616) + o) % 18446744073709551616) : Nat) : Int), .int .u64 (((((((((wd a) i) * ((wd b) j) % 18446744073709551616) + (f2 (i + j))) % 18446744073709551616) + o) / 18446744073709551616) : Nat) : Int)], .int .u64 (((((((wd a) i) * ((wd b) j) % 18446744073709551616) + (f2 (i + j))) % 18446744073709551616) : Nat) : Int), .int .u64 ((o : Nat) : Int), .tuple #[.int .u64 (((((((((wd a) i) * ((wd b) j) % 18446744073709551616) + (f2 (i + j))) % 18446744073709551616) + o) % 18446744073709551616) : Nat) : Int), .int .u64 (((((((((wd a) i) * ((wd b) j) % 18446744073709551616) + (f2 (i + j))) % 18446744073709551616) + o) / 18446744073709551616) : Nat) : Int)], .int .u64 (((((((((wd a) i) * ((wd b) j) % 18446744073709551616) + (f2 (i + j))) % 18446744073709551616) + o) % 18446744073709551616) : Nat) : Int), .int .u64 (((((((((wd a) i) * ((wd b) j) % 18446744073709551616) + (f2 (i + j))) % 18446744073709551616) + o) / 18446744073709551616) : Nat) : Int), .int .i64 ((i : Nat) : Int), .int .i64 ((j : Nat) : Int), .int .i64 (((i + j) : Nat) : Int), .int .u64 (((((((((wd a) i) * ((wd b) j) % 18446744073709551616) + (f2 (i + j))) % 18446744073709551616) + o) % 18446744073709551616) : Nat) : Int), .pointer (some ⟨g18, (i + j), none⟩), .int .u64 ((((((wd a) i) * ((wd b) j) / 18446744073709551616) + (((((wd a) i) * ((wd b) j) % 18446744073709551616) + (f2 (i + j))) / 18446744073709551616)) : Nat) : Int), .int .u64 (((((((((wd a) i) * ((wd b) j) % 18446744073709551616) + (f2 (i + j))) % 18446744073709551616) + o) / 18446744073709551616) : Nat) : Int), .int .u64 (((((((wd a) i) * ((wd b) j) / 18446744073709551616) + (((((wd a) i) * ((wd b) j) % 18446744073709551616) + (f2 (i + j))) / 18446744073709551616)) + (((((((wd a) i) * ((wd b) j) % 18446744073709551616) + (f2 (i + j))) % 18446744073709551616) + o) / 18446744073709551616)) : Nat) : Int)] (qq - 24) undef), rfl, (by omega), (prc_next hp2 (by omega) (by omega)), rfl, hm52⟩ ?_)
      omega
    · obtain rfl : j = 4 := by omega
      refine wp_exit ?_
      refine then_x ?_
      refine then_x ?_
      refine blk_x ?_
      refine then_n (hK33 _ _ ?_)
      refine wp_region_lit ?_
      refine lst (wanted_none rfl) (w_value 70 (.int .i64 ((i : Nat) : Int)) rfl (run_mv rfl rfl) ?_)
      simp only [List.setIfInBounds_toArray, List.set_cons_zero, List.set_cons_succ]
      refine lst (wanted_none rfl) (w_value 71 (.int .i64 (((i + 4) : Nat) : Int)) rfl (r_add i 4 (show (i + 4) < 9223372036854775808 from by omega) rfl rfl rfl) ?_)
      simp only [List.setIfInBounds_toArray, List.set_cons_zero, List.set_cons_succ]
      refine lst (wanted_none rfl) (w_value 72 (.int .u64 ((o : Nat) : Int)) rfl (run_mv rfl rfl) ?_)
      simp only [List.setIfInBounds_toArray, List.set_cons_zero, List.set_cons_succ]
      refine lst (wanted_none rfl) (w_value 73 (.pointer (some ⟨g18, (i + 4), none⟩)) rfl (r_ix g18 (i + 4) (by omega) Try.underlying40 one_u64 rfl rfl rfl) ?_)
      simp only [List.setIfInBounds_toArray, List.set_cons_zero, List.set_cons_succ]
      refine lst (wanted_none rfl) (m_put 5 (new := rowOf .u64 (up f2 (i + 4) o) 8) (i + 4) (.int .u64 ((o : Nat) : Int)) (old := rowOf .u64 f2 8) hm36 rfl rfl (p_cell (n := 8) (f := f2) g18 (i + 4) o (by omega) (hm36.at 5 rfl) rfl one_u64 rfl rfl) (rowOf_set _ _ _ _ _) (fun w53 (hm54 : Mm w w53 [(g2, ws a, 37), (g5, ws b, 37), (g8, ws c, 37), (g11, ws 0, 37), (g14, ws 0, 37), (g18, rowOf .u64 (up f2 (i + 4) o) 8, 40)]) => ?_))
      refine wpList_nil ?_
      refine blk_n ?_
      refine then_n (hK31 _ _ ?_)
      refine wp_region_lit ?_
      refine lst (wanted_none rfl) (w_value 27 (.int .i64 ((i : Nat) : Int)) rfl (run_mv rfl rfl) ?_)
      simp only [List.setIfInBounds_toArray, List.set_cons_zero, List.set_cons_succ]
      refine lst (wanted_none rfl) (w_value 28 (.int .i64 (((i + 1) : Nat) : Int)) rfl (r_add i 1 (show (i + 1) < 9223372036854775808 from by omega) rfl rfl rfl) ?_)
      simp only [List.setIfInBounds_toArray, List.set_cons_zero, List.set_cons_succ]
      refine lst (wanted_none rfl) (w_value 9 (.int .i64 (((i + 1) : Nat) : Int)) rfl (run_as rfl rfl) ?_)
      simp only [List.setIfInBounds_toArray, List.set_cons_zero, List.set_cons_succ]
      refine wpList_nil ?_
      refine then_n (hR27 _ _ _ ⟨(i + 1), _, (fun qq => bif Nat.blt qq 24 then List.getD [.int .u64 ((o : Nat) : Int), .int .i64 4, u1 0, u1 1, u1 2, u1 3, .int .i64 ((i : Nat) : Int), .bool (decide (i < 4)), .int .i64 ((i : Nat) : Int), .int .i64 (((i + 1) : Nat) : Int), .int .i64 4, .bool (decide (4 < 4)), u1 6, u1 7, u1 8, u1 9, u1 10, u1 11, u1 12, u1 13, u1 14, u1 15, u1 16, u1 17] qq undef else bif Nat.blt qq 48 then List.getD [u1 18, u1 19, u1 20, u1 21, u1 22, u1 23, u1 24, u1 25, u1 26, u1 27, u1 28, u1 29, u1 30, u1 31, u1 32, u1 33, u1 34, u1 35, u1 36, u1 37, u1 38, u1 39, u1 40, u1 41] (qq - 24) undef else List.getD [u1 42, u1 43, u1 44, .int .i64 ((i : Nat) : Int), .int .i64 (((i + 4) : Nat) : Int), .int .u64 ((o : Nat) : Int), .pointer (some ⟨g18, (i + 4), none⟩)] (qq - 48) undef), rfl, (by omega), (hp2.next hb (by omega)), rfl, hm54⟩ ?_)
      omega
  · obtain rfl : i = 4 := by omega
    have hm55 : Mm w w25 [(g2, ws a, 37), (g5, ws b, 37), (g8, ws c, 37), (g11, ws 0, 37), (g14, ws 0, 37), (g18, w8 (a * b + c), 40)] := by rw [show (w8 (a * b + c) : Array Value) = rowOf .u64 f 8 from prc_all hp ha]; exact hm26
    refine wp_exit ?_
    refine then_x ?_
    refine then_x ?_
    refine blk_x ?_
    refine then_n (hK23 _ _ ?_)
    refine wp_seq_k (fun K56 hK56 => ?_)
    have hm57 := hm55.drew
    refine wp_region_held_drew (S := fun w' => Sym.Blk w' g18 (w8 (a * b + c)) 40) (by kernel_rfl) (hm55.at 5 rfl) (fun _ => ?_)
    generalize w25.drew = w58 at *
    refine Sym.take_at 0 74 (.pointer (some ⟨g18, 0, none⟩)) rfl rfl (by kernel_rfl) (by kernel_rfl) (by kernel_rfl) (fun _ _ _ h => h) (wanted_none rfl) (fun _ hw => r_ix g18 0 (by decide) Try.underlying40 one_u64 rfl rfl rfl) (hm57.at 5 rfl) ?_
    simp only [List.setIfInBounds_toArray, List.set_cons_zero, List.set_cons_succ]
    refine Sym.take_at 1 75 (.int .u64 (((wd (a * b + c)) 0 : Nat) : Int)) rfl rfl (by kernel_rfl) (by kernel_rfl) (by kernel_rfl) (fun _ _ _ h => h) (wanted_none rfl) (fun _ hw => r_cell (f := (wd (a * b + c))) (n := 8) g18 0 (by decide) hw Try.underlying35 rfl rfl) (hm57.at 5 rfl) ?_
    simp only [List.setIfInBounds_toArray, List.set_cons_zero, List.set_cons_succ]
    refine Sym.take_at 2 76 (.pointer (some ⟨g18, 1, none⟩)) rfl rfl (by kernel_rfl) (by kernel_rfl) (by kernel_rfl) (fun _ _ _ h => h) (wanted_none rfl) (fun _ hw => r_ix g18 1 (by decide) Try.underlying40 one_u64 rfl rfl rfl) (hm57.at 5 rfl) ?_
    simp only [List.setIfInBounds_toArray, List.set_cons_zero, List.set_cons_succ]
    refine Sym.take_at 3 77 (.int .u64 (((wd (a * b + c)) 1 : Nat) : Int)) rfl rfl (by kernel_rfl) (by kernel_rfl) (by kernel_rfl) (fun _ _ _ h => h) (wanted_none rfl) (fun _ hw => r_cell (f := (wd (a * b + c))) (n := 8) g18 1 (by decide) hw Try.underlying35 rfl rfl) (hm57.at 5 rfl) ?_
    simp only [List.setIfInBounds_toArray, List.set_cons_zero, List.set_cons_succ]
    refine Sym.take_at 4 78 (.pointer (some ⟨g18, 2, none⟩)) rfl rfl (by kernel_rfl) (by kernel_rfl) (by kernel_rfl) (fun _ _ _ h => h) (wanted_none rfl) (fun _ hw => r_ix g18 2 (by decide) Try.underlying40 one_u64 rfl rfl rfl) (hm57.at 5 rfl) ?_
    simp only [List.setIfInBounds_toArray, List.set_cons_zero, List.set_cons_succ]
    refine Sym.take_at 5 79 (.int .u64 (((wd (a * b + c)) 2 : Nat) : Int)) rfl rfl (by kernel_rfl) (by kernel_rfl) (by kernel_rfl) (fun _ _ _ h => h) (wanted_none rfl) (fun _ hw => r_cell (f := (wd (a * b + c))) (n := 8) g18 2 (by decide) hw Try.underlying35 rfl rfl) (hm57.at 5 rfl) ?_
    simp only [List.setIfInBounds_toArray, List.set_cons_zero, List.set_cons_succ]
    refine Sym.take_at 6 80 (.pointer (some ⟨g18, 3, none⟩)) rfl rfl (by kernel_rfl) (by kernel_rfl) (by kernel_rfl) (fun _ _ _ h => h) (wanted_none rfl) (fun _ hw => r_ix g18 3 (by decide) Try.underlying40 one_u64 rfl rfl rfl) (hm57.at 5 rfl) ?_
    simp only [List.setIfInBounds_toArray, List.set_cons_zero, List.set_cons_succ]
    refine Sym.take_at 7 81 (.int .u64 (((wd (a * b + c)) 3 : Nat) : Int)) rfl rfl (by kernel_rfl) (by kernel_rfl) (by kernel_rfl) (fun _ _ _ h => h) (wanted_none rfl) (fun _ hw => r_cell (f := (wd (a * b + c))) (n := 8) g18 3 (by decide) hw Try.underlying35 rfl rfl) (hm57.at 5 rfl) ?_
    simp only [List.setIfInBounds_toArray, List.set_cons_zero, List.set_cons_succ]
    refine Sym.take_at 8 82 (.agg (ws (a * b + c))) rfl rfl (by kernel_rfl) (by kernel_rfl) (by kernel_rfl) (fun _ _ _ h => h) (wanted_none rfl) (fun _ hw => run_b4 (a * b + c) (a * b + c) 0 (fun j => by rw [Nat.zero_add]) rfl rfl rfl rfl rfl) (hm57.at 5 rfl) ?_
    simp only [List.setIfInBounds_toArray, List.set_cons_zero, List.set_cons_succ]
    refine Sym.take_at 9 83 (.pointer (some ⟨g18, 4, none⟩)) rfl rfl (by kernel_rfl) (by kernel_rfl) (by kernel_rfl) (fun _ _ _ h => h) (wanted_none rfl) (fun _ hw => r_ix g18 4 (by decide) Try.underlying40 one_u64 rfl rfl rfl) (hm57.at 5 rfl) ?_
    simp only [List.setIfInBounds_toArray, List.set_cons_zero, List.set_cons_succ]
    refine Sym.take_at 10 84 (.int .u64 (((wd (a * b + c)) 4 : Nat) : Int)) rfl rfl (by kernel_rfl) (by kernel_rfl) (by kernel_rfl) (fun _ _ _ h => h) (wanted_none rfl) (fun _ hw => r_cell (f := (wd (a * b + c))) (n := 8) g18 4 (by decide) hw Try.underlying35 rfl rfl) (hm57.at 5 rfl) ?_
    simp only [List.setIfInBounds_toArray, List.set_cons_zero, List.set_cons_succ]
    refine Sym.take_at 11 85 (.pointer (some ⟨g18, 5, none⟩)) rfl rfl (by kernel_rfl) (by kernel_rfl) (by kernel_rfl) (fun _ _ _ h => h) (wanted_none rfl) (fun _ hw => r_ix g18 5 (by decide) Try.underlying40 one_u64 rfl rfl rfl) (hm57.at 5 rfl) ?_
    simp only [List.setIfInBounds_toArray, List.set_cons_zero, List.set_cons_succ]
    refine Sym.take_at 12 86 (.int .u64 (((wd (a * b + c)) 5 : Nat) : Int)) rfl rfl (by kernel_rfl) (by kernel_rfl) (by kernel_rfl) (fun _ _ _ h => h) (wanted_none rfl) (fun _ hw => r_cell (f := (wd (a * b + c))) (n := 8) g18 5 (by decide) hw Try.underlying35 rfl rfl) (hm57.at 5 rfl) ?_
    simp only [List.setIfInBounds_toArray, List.set_cons_zero, List.set_cons_succ]
    refine Sym.take_at 13 87 (.pointer (some ⟨g18, 6, none⟩)) rfl rfl (by kernel_rfl) (by kernel_rfl) (by kernel_rfl) (fun _ _ _ h => h) (wanted_none rfl) (fun _ hw => r_ix g18 6 (by decide) Try.underlying40 one_u64 rfl rfl rfl) (hm57.at 5 rfl) ?_
    simp only [List.setIfInBounds_toArray, List.set_cons_zero, List.set_cons_succ]
    refine Sym.take_at 14 88 (.int .u64 (((wd (a * b + c)) 6 : Nat) : Int)) rfl rfl (by kernel_rfl) (by kernel_rfl) (by kernel_rfl) (fun _ _ _ h => h) (wanted_none rfl) (fun _ hw => r_cell (f := (wd (a * b + c))) (n := 8) g18 6 (by decide) hw Try.underlying35 rfl rfl) (hm57.at 5 rfl) ?_
    simp only [List.setIfInBounds_toArray, List.set_cons_zero, List.set_cons_succ]
    refine Sym.take_at 15 89 (.pointer (some ⟨g18, 7, none⟩)) rfl rfl (by kernel_rfl) (by kernel_rfl) (by kernel_rfl) (fun _ _ _ h => h) (wanted_none rfl) (fun _ hw => r_ix g18 7 (by decide) Try.underlying40 one_u64 rfl rfl rfl) (hm57.at 5 rfl) ?_
    simp only [List.setIfInBounds_toArray, List.set_cons_zero, List.set_cons_succ]
    refine Sym.take_at 16 90 (.int .u64 (((wd (a * b + c)) 7 : Nat) : Int)) rfl rfl (by kernel_rfl) (by kernel_rfl) (by kernel_rfl) (fun _ _ _ h => h) (wanted_none rfl) (fun _ hw => r_cell (f := (wd (a * b + c))) (n := 8) g18 7 (by decide) hw Try.underlying35 rfl rfl) (hm57.at 5 rfl) ?_
    simp only [List.setIfInBounds_toArray, List.set_cons_zero, List.set_cons_succ]
    refine Sym.take_at 17 91 (.agg (ws ((a * b + c) / MM))) rfl rfl (by kernel_rfl) (by kernel_rfl) (by kernel_rfl) (fun _ _ _ h => h) (wanted_none rfl) (fun _ hw => run_b4 (a * b + c) ((a * b + c) / MM) 4 (fun j => wd_div _ j) rfl rfl rfl rfl rfl) (hm57.at 5 rfl) ?_
    simp only [List.setIfInBounds_toArray, List.set_cons_zero, List.set_cons_succ]
    refine one_ready 18 (by kernel_rfl) ?_
    refine opd rfl (wanted_none rfl) (m_store 3 37 _ _ (ws (a * b + c)) (old := ws 0) hm57 rfl rfl rfl rfl rfl (by rw [ws_sz]; exact info_w) ((ws_sz _).trans (ws_sz _).symm) (ws_one _) (fun w59 (hm60 : Mm w w59 [(g2, ws a, 37), (g5, ws b, 37), (g8, ws c, 37), (g11, ws (a * b + c), 37), (g14, ws 0, 37), (g18, w8 (a * b + c), 40)]) => ?_))
    refine ⟨hm60.at 5 rfl, ?_⟩
    refine one_ready 19 (by kernel_rfl) ?_
    refine opd rfl (wanted_none rfl) (m_store 4 37 _ _ (ws ((a * b + c) / MM)) (old := ws 0) hm60 rfl rfl rfl rfl rfl (by rw [ws_sz]; exact info_w) ((ws_sz _).trans (ws_sz _).symm) (ws_one _) (fun w61 (hm62 : Mm w w61 [(g2, ws a, 37), (g5, ws b, 37), (g8, ws c, 37), (g11, ws (a * b + c), 37), (g14, ws ((a * b + c) / MM), 37), (g18, w8 (a * b + c), 40)]) => ?_))
    refine ⟨hm62.at 5 rfl, ?_⟩
    refine wpAnyH_done (by kernel_rfl) ?_ _
    refine then_n (hK56 _ _ ?_)
    refine wp_ret ?_
    exact ⟨rfl, .tuple #[.agg (ws (a * b + c)), .agg (ws ((a * b + c) / MM))], res_cc rfl rfl (hm62.at 3 rfl) Try.underlying37 rfl (by rw [ws_sz]; exact info_w) rfl (hm62.at 4 rfl) Try.underlying37 rfl (by rw [ws_sz]; exact info_w), ⟨rfl, hm62.below⟩⟩
end Go.Proofs.Ytcemcnbhnedaaaa.Fld
