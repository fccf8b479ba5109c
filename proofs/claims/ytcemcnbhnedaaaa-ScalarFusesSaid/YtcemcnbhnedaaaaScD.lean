/- Layer 4: what the package offers. -/
import Derived.Test.YtcemcnbhnedaaaaScB
import Derived.Test.YtcemcnbhnedaaaaScC
namespace Go.Proofs.Ytcemcnbhnedaaaa.Fld
open Go.RowKit Go.Shelf
open Go.Proofs.Ytcemcnbhnedaaaa.Num (val up val_congr val_add val_lt val_up val_digits val_word)
open Go.Proofs.Ytcemcnbhnedaaaa.Arr Go.Proofs.Ytcemcnbhnedaaaa.Sym Go.Proofs.Ytcemcnbhnedaaaa.Sx

set_option maxHeartbeats 1000000 in
set_option maxRecDepth 100000 in
theorem canon_any (a : Nat) (ha : a < MM) (w : World) : Calls Try.prog 11 #[.agg (bs a)] w (fun e w' => e = .returned (.bool (decide (a < LL))) ∧ Below w.heap.size w w') := by
  go_enter Try.func11, Try.ntmps11
  have hm0 := Mm.nil w
  refine wp_seq_k (fun K1 hK1 => ?_)
  refine wp_region_lit ?_
  refine lst (wanted_none rfl) (m_alloc (c := bs a) (T := 23) hm0 1 rfl (run_box rfl rfl) (fun g2 w3 (hm4 : Mm w w3 [(g2, bs a, 23)]) => ?_))
  simp only [List.setIfInBounds_toArray, List.set_cons_zero, List.set_cons_succ]
  refine lst (wanted_none rfl) (w_value 2 (.bool false) rfl (run_as rfl rfl) ?_)
  simp only [List.setIfInBounds_toArray, List.set_cons_zero, List.set_cons_succ]
  refine wpList_nil ?_
  refine then_n (hK1 _ _ ?_)
  refine wp_seq_k (fun K5 hK5 => ?_)
  refine wp_region_lit ?_
  refine lst (wanted_none rfl) (w_value 6 (.agg (bs a)) rfl (run_row rfl rfl (hm4.at 0 rfl) Try.underlying23 rfl (by rw [bs_sz]; exact info_b)) ?_)
  simp only [List.setIfInBounds_toArray, List.set_cons_zero, List.set_cons_succ]
  refine lst (wanted_none rfl) (m_call hm4 7 (.agg (ws a)) rfl (run_load rfl rfl) (load_any a _) (fun w6 hm7 => ?_))
  simp only [List.setIfInBounds_toArray, List.set_cons_zero, List.set_cons_succ]
  refine lst (wanted_none rfl) (m_call hm7 8 (.agg (ws LL)) rfl (run_order rfl) (order_any _) (fun w8 hm9 => ?_))
  simp only [List.setIfInBounds_toArray, List.set_cons_zero, List.set_cons_succ]
  refine lst (wanted_none rfl) (m_call hm9 9 (.tuple #[.agg (ws (a + MM - LL)), .int .u64 (((bo a LL 4) : Nat) : Int)]) rfl (run_minus rfl rfl rfl) (minus_any a LL (by decide) _) (fun w10 hm11 => ?_))
  simp only [List.setIfInBounds_toArray, List.set_cons_zero, List.set_cons_succ]
  refine lst (wanted_none rfl) (w_value 5 (.tuple #[.agg (ws (a + MM - LL)), .int .u64 (((bo a LL 4) : Nat) : Int)]) rfl (run_mv rfl rfl) ?_)
  simp only [List.setIfInBounds_toArray, List.set_cons_zero, List.set_cons_succ]
  refine lst (wanted_none rfl) (w_value 10 (.agg (ws (a + MM - LL))) rfl (run_ex rfl rfl rfl) ?_)
  simp only [List.setIfInBounds_toArray, List.set_cons_zero, List.set_cons_succ]
  refine lst (wanted_none rfl) (w_value 11 (.int .u64 (((bo a LL 4) : Nat) : Int)) rfl (run_ex rfl rfl rfl) ?_)
  simp only [List.setIfInBounds_toArray, List.set_cons_zero, List.set_cons_succ]
  refine lst (wanted_none rfl) (m_alloc (c := ws 0) (T := 37) hm11 3 rfl (al_W rfl) (fun g12 w13 (hm14 : Mm w w13 [(g2, bs a, 23), (g12, ws 0, 37)]) => ?_))
  simp only [List.setIfInBounds_toArray, List.set_cons_zero, List.set_cons_succ]
  refine lst (wanted_none rfl) (m_store 1 37 _ _ (ws (a + MM - LL)) (old := ws 0) hm14 rfl rfl rfl rfl rfl (by rw [ws_sz]; exact info_w) ((ws_sz _).trans (ws_sz _).symm) (ws_one _) (fun w15 (hm16 : Mm w w15 [(g2, bs a, 23), (g12, ws (a + MM - LL), 37)]) => ?_))
  refine lst (wanted_none rfl) (w_value 4 (.int .u64 (((bo a LL 4) : Nat) : Int)) rfl (run_as rfl rfl) ?_)
  simp only [List.setIfInBounds_toArray, List.set_cons_zero, List.set_cons_succ]
  refine wpList_nil ?_
  refine then_n (hK5 _ _ ?_)
  refine wp_seq_k (fun K17 hK17 => ?_)
  refine wp_region_lit ?_
  refine lst (wanted_none rfl) (w_value 12 (.int .u64 (((bo a LL 4) : Nat) : Int)) rfl (run_mv rfl rfl) ?_)
  simp only [List.setIfInBounds_toArray, List.set_cons_zero, List.set_cons_succ]
  refine lst (wanted_none rfl) (w_value 13 (.bool (decide ((bo a LL 4) = 1))) rfl (r_eql (bo a LL 4) 1 rfl rfl rfl) ?_)
  simp only [List.setIfInBounds_toArray, List.set_cons_zero, List.set_cons_succ]
  refine lst (wanted_none rfl) (w_value 2 (.bool (decide ((bo a LL 4) = 1))) rfl (run_as rfl rfl) ?_)
  simp only [List.setIfInBounds_toArray, List.set_cons_zero, List.set_cons_succ]
  refine wpList_nil ?_
  refine then_n (hK17 _ _ ?_)
  refine wp_ret ?_
  exact ⟨rfl, .bool (decide ((bo a LL 4) = 1)), res_t rfl rfl, ⟨by rw [canon_eq a ha], hm16.below⟩⟩
set_option maxHeartbeats 4000000 in
set_option maxRecDepth 100000 in
theorem fuse_any (a b c : Nat) (ha : a < MM) (hb : b < MM) (hc : c < MM) (w : World) : Calls Try.prog 13 #[.agg (bs a), .agg (bs b), .agg (bs c)] w (fun e w' => e = .returned (.agg (bs ((a * b + c) % LL))) ∧ Below w.heap.size w w') := by
  go_enter Try.func13, Try.ntmps13
  have hm0 := Mm.nil w
  refine wp_seq_k (fun K1 hK1 => ?_)
  refine wp_region_lit ?_
  refine lst (wanted_none rfl) (m_alloc (c := bs a) (T := 23) hm0 3 rfl (run_box rfl rfl) (fun g2 w3 (hm4 : Mm w w3 [(g2, bs a, 23)]) => ?_))
  simp only [List.setIfInBounds_toArray, List.set_cons_zero, List.set_cons_succ]
  refine lst (wanted_none rfl) (m_alloc (c := bs b) (T := 23) hm4 4 rfl (run_box rfl rfl) (fun g5 w6 (hm7 : Mm w w6 [(g2, bs a, 23), (g5, bs b, 23)]) => ?_))
  simp only [List.setIfInBounds_toArray, List.set_cons_zero, List.set_cons_succ]
  refine lst (wanted_none rfl) (m_alloc (c := bs c) (T := 23) hm7 5 rfl (run_box rfl rfl) (fun g8 w9 (hm10 : Mm w w9 [(g2, bs a, 23), (g5, bs b, 23), (g8, bs c, 23)]) => ?_))
  simp only [List.setIfInBounds_toArray, List.set_cons_zero, List.set_cons_succ]
  refine lst (wanted_none rfl) (m_alloc (c := bs 0) (T := 23) hm10 6 rfl (al_N rfl) (fun g11 w12 (hm13 : Mm w w12 [(g2, bs a, 23), (g5, bs b, 23), (g8, bs c, 23), (g11, bs 0, 23)]) => ?_))
  simp only [List.setIfInBounds_toArray, List.set_cons_zero, List.set_cons_succ]
  refine wpList_nil ?_
  refine then_n (hK1 _ _ ?_)
  refine wp_seq_k (fun K14 hK14 => ?_)
  refine wp_mono (Q := fun e a' w' => e = Exit.normal ∧ ∃ g25 g28 : Nat, a' = ⟨#[.agg (bs a), .agg (bs b), .agg (bs c), .pointer (some ⟨g2, 0, none⟩), .pointer (some ⟨g5, 0, none⟩), .pointer (some ⟨g8, 0, none⟩), .pointer (some ⟨g11, 0, none⟩), .pointer (some ⟨g25, 0, none⟩), .pointer (some ⟨g28, 0, none⟩), .tuple #[.agg (ws (a * b + c)), .agg (ws ((a * b + c) / MM))], .agg (bs a), .agg (ws a), .agg (bs b), .agg (ws b), .agg (bs c), .agg (ws c), .tuple #[.agg (ws (a * b + c)), .agg (ws ((a * b + c) / MM))], .agg (ws (a * b + c)), .agg (ws ((a * b + c) / MM)), undef, undef, undef, undef], []⟩ ∧ Mm w w' [(g2, bs a, 23), (g5, bs b, 23), (g8, bs c, 23), (g11, bs 0, 23), (g25, ws (a * b + c), 37), (g28, ws ((a * b + c) / MM), 37)]) ?_ ?_
  · have hm15 := hm13.drew
    refine wp_region_held_drew (S := fun w' => Sym.Blk w' g2 (bs a) 23 ∧ Sym.Blk w' g5 (bs b) 23 ∧ Sym.Blk w' g8 (bs c) 23) (by kernel_rfl) (⟨hm13.at 0 rfl, hm13.at 1 rfl, hm13.at 2 rfl⟩) (fun _ => ?_)
    generalize w12.drew = w16 at *
    refine Sym.take_at 0 10 (.agg (bs a)) rfl rfl (by kernel_rfl) (by kernel_rfl) (by kernel_rfl) (fun _ _ _ h => nomatch h.1) (wanted_none rfl) (fun _ hw => run_row rfl rfl hw.1 Try.underlying23 rfl (by rw [bs_sz]; exact info_b)) (⟨hm15.at 0 rfl, hm15.at 1 rfl, hm15.at 2 rfl⟩) ?_
    simp only [List.setIfInBounds_toArray, List.set_cons_zero, List.set_cons_succ]
    refine Sym.take_at 2 12 (.agg (bs b)) rfl rfl (by kernel_rfl) (by kernel_rfl) (by kernel_rfl) (fun _ _ _ h => nomatch h.1) (wanted_none rfl) (fun _ hw => run_row rfl rfl hw.2.1 Try.underlying23 rfl (by rw [bs_sz]; exact info_b)) (⟨hm15.at 0 rfl, hm15.at 1 rfl, hm15.at 2 rfl⟩) ?_
    simp only [List.setIfInBounds_toArray, List.set_cons_zero, List.set_cons_succ]
    refine Sym.take_at 4 14 (.agg (bs c)) rfl rfl (by kernel_rfl) (by kernel_rfl) (by kernel_rfl) (fun _ _ _ h => nomatch h.1) (wanted_none rfl) (fun _ hw => run_row rfl rfl hw.2.2 Try.underlying23 rfl (by rw [bs_sz]; exact info_b)) (⟨hm15.at 0 rfl, hm15.at 1 rfl, hm15.at 2 rfl⟩) ?_
    simp only [List.setIfInBounds_toArray, List.set_cons_zero, List.set_cons_succ]
    refine three_ready 1 10 11 (by kernel_rfl) ?_ ?_ ?_
    · refine opd rfl (wanted_none rfl) (m_call hm15 11 (.agg (ws a)) rfl (run_load rfl rfl) (load_any a _) (fun w17 hm18 => ?_))
      refine ⟨⟨hm18.at 0 rfl, hm18.at 1 rfl, hm18.at 2 rfl⟩, ?_⟩
      simp only [List.setIfInBounds_toArray, List.set_cons_zero, List.set_cons_succ]
      refine three_ready 3 10 11 (by kernel_rfl) ?_ ?_ ?_
      · refine opd rfl (wanted_none rfl) (m_call hm18 13 (.agg (ws b)) rfl (run_load rfl rfl) (load_any b _) (fun w19 hm20 => ?_))
        refine ⟨⟨hm20.at 0 rfl, hm20.at 1 rfl, hm20.at 2 rfl⟩, ?_⟩
        simp only [List.setIfInBounds_toArray, List.set_cons_zero, List.set_cons_succ]
        refine three_ready 5 10 11 (by kernel_rfl) ?_ ?_ ?_
        · refine opd rfl (wanted_none rfl) (m_call hm20 15 (.agg (ws c)) rfl (run_load rfl rfl) (load_any c _) (fun w21 hm22 => ?_))
          refine ⟨⟨hm22.at 0 rfl, hm22.at 1 rfl, hm22.at 2 rfl⟩, ?_⟩
          simp only [List.setIfInBounds_toArray, List.set_cons_zero, List.set_cons_succ]
          refine three_ready 6 10 11 (by kernel_rfl) ?_ ?_ ?_
          · refine opd rfl (wanted_none rfl) (m_call hm22 16 (.tuple #[.agg (ws (a * b + c)), .agg (ws ((a * b + c) / MM))]) rfl (run_product rfl rfl rfl rfl) (product_any a b c ha hb hc _) (fun w23 hm24 => ?_))
            refine ⟨⟨hm24.at 0 rfl, hm24.at 1 rfl, hm24.at 2 rfl⟩, ?_⟩
            simp only [List.setIfInBounds_toArray, List.set_cons_zero, List.set_cons_succ]
            refine Sym.take_at 7 9 (.tuple #[.agg (ws (a * b + c)), .agg (ws ((a * b + c) / MM))]) rfl rfl (by kernel_rfl) (by kernel_rfl) (by kernel_rfl) (fun _ _ _ h => nomatch h.1) (wanted_none rfl) (fun _ hw => run_mv rfl rfl) (⟨hm24.at 0 rfl, hm24.at 1 rfl, hm24.at 2 rfl⟩) ?_
            simp only [List.setIfInBounds_toArray, List.set_cons_zero, List.set_cons_succ]
            refine Sym.take_at 8 17 (.agg (ws (a * b + c))) rfl rfl (by kernel_rfl) (by kernel_rfl) (by kernel_rfl) (fun _ _ _ h => nomatch h.1) (wanted_none rfl) (fun _ hw => run_ex rfl rfl rfl) (⟨hm24.at 0 rfl, hm24.at 1 rfl, hm24.at 2 rfl⟩) ?_
            simp only [List.setIfInBounds_toArray, List.set_cons_zero, List.set_cons_succ]
            refine Sym.take_at 9 18 (.agg (ws ((a * b + c) / MM))) rfl rfl (by kernel_rfl) (by kernel_rfl) (by kernel_rfl) (fun _ _ _ h => nomatch h.1) (wanted_none rfl) (fun _ hw => run_ex rfl rfl rfl) (⟨hm24.at 0 rfl, hm24.at 1 rfl, hm24.at 2 rfl⟩) ?_
            simp only [List.setIfInBounds_toArray, List.set_cons_zero, List.set_cons_succ]
            refine two_ready 10 11 (by kernel_rfl) ?_ ?_
            · refine opd rfl (wanted_none rfl) (m_alloc (c := ws 0) (T := 37) hm24 7 rfl (al_W rfl) (fun g25 w26 (hm27 : Mm w w26 [(g2, bs a, 23), (g5, bs b, 23), (g8, bs c, 23), (g11, bs 0, 23), (g25, ws 0, 37)]) => ?_))
              refine ⟨⟨hm27.at 0 rfl, hm27.at 1 rfl, hm27.at 2 rfl⟩, ?_⟩
              simp only [List.setIfInBounds_toArray, List.set_cons_zero, List.set_cons_succ]
              refine one_ready 11 (by kernel_rfl) ?_
              refine opd rfl (wanted_none rfl) (m_alloc (c := ws 0) (T := 37) hm27 8 rfl (al_W rfl) (fun g28 w29 (hm30 : Mm w w29 [(g2, bs a, 23), (g5, bs b, 23), (g8, bs c, 23), (g11, bs 0, 23), (g25, ws 0, 37), (g28, ws 0, 37)]) => ?_))
              refine ⟨⟨hm30.at 0 rfl, hm30.at 1 rfl, hm30.at 2 rfl⟩, ?_⟩
              simp only [List.setIfInBounds_toArray, List.set_cons_zero, List.set_cons_succ]
              refine one_ready 12 (by kernel_rfl) ?_
              refine opd rfl (wanted_none rfl) (m_store 4 37 _ _ (ws (a * b + c)) (old := ws 0) hm30 rfl rfl rfl rfl rfl (by rw [ws_sz]; exact info_w) ((ws_sz _).trans (ws_sz _).symm) (ws_one _) (fun w31 (hm32 : Mm w w31 [(g2, bs a, 23), (g5, bs b, 23), (g8, bs c, 23), (g11, bs 0, 23), (g25, ws (a * b + c), 37), (g28, ws 0, 37)]) => ?_))
              refine ⟨⟨hm32.at 0 rfl, hm32.at 1 rfl, hm32.at 2 rfl⟩, ?_⟩
              refine one_ready 13 (by kernel_rfl) ?_
              refine opd rfl (wanted_none rfl) (m_store 5 37 _ _ (ws ((a * b + c) / MM)) (old := ws 0) hm32 rfl rfl rfl rfl rfl (by rw [ws_sz]; exact info_w) ((ws_sz _).trans (ws_sz _).symm) (ws_one _) (fun w33 (hm34 : Mm w w33 [(g2, bs a, 23), (g5, bs b, 23), (g8, bs c, 23), (g11, bs 0, 23), (g25, ws (a * b + c), 37), (g28, ws ((a * b + c) / MM), 37)]) => ?_))
              refine ⟨⟨hm34.at 0 rfl, hm34.at 1 rfl, hm34.at 2 rfl⟩, ?_⟩
              refine wpAnyH_done (by kernel_rfl) ?_ _
              exact ⟨rfl, g25, g28, rfl, hm34⟩
            · refine opd rfl (wanted_none rfl) (m_alloc (c := ws 0) (T := 37) hm24 8 rfl (al_W rfl) (fun g35 w36 (hm37 : Mm w w36 [(g2, bs a, 23), (g5, bs b, 23), (g8, bs c, 23), (g11, bs 0, 23), (g35, ws 0, 37)]) => ?_))
              refine ⟨⟨hm37.at 0 rfl, hm37.at 1 rfl, hm37.at 2 rfl⟩, ?_⟩
              simp only [List.setIfInBounds_toArray, List.set_cons_zero, List.set_cons_succ]
              refine one_ready 10 (by kernel_rfl) ?_
              refine opd rfl (wanted_none rfl) (m_alloc (c := ws 0) (T := 37) hm37 7 rfl (al_W rfl) (fun g38 w39 (hm40 : Mm w w39 [(g2, bs a, 23), (g5, bs b, 23), (g8, bs c, 23), (g11, bs 0, 23), (g35, ws 0, 37), (g38, ws 0, 37)]) => ?_))
              refine ⟨⟨hm40.at 0 rfl, hm40.at 1 rfl, hm40.at 2 rfl⟩, ?_⟩
              simp only [List.setIfInBounds_toArray, List.set_cons_zero, List.set_cons_succ]
              refine one_ready 12 (by kernel_rfl) ?_
              refine opd rfl (wanted_none rfl) (m_store 5 37 _ _ (ws (a * b + c)) (old := ws 0) hm40 rfl rfl rfl rfl rfl (by rw [ws_sz]; exact info_w) ((ws_sz _).trans (ws_sz _).symm) (ws_one _) (fun w41 (hm42 : Mm w w41 [(g2, bs a, 23), (g5, bs b, 23), (g8, bs c, 23), (g11, bs 0, 23), (g35, ws 0, 37), (g38, ws (a * b + c), 37)]) => ?_))
              refine ⟨⟨hm42.at 0 rfl, hm42.at 1 rfl, hm42.at 2 rfl⟩, ?_⟩
              refine one_ready 13 (by kernel_rfl) ?_
              refine opd rfl (wanted_none rfl) (m_store 4 37 _ _ (ws ((a * b + c) / MM)) (old := ws 0) hm42 rfl rfl rfl rfl rfl (by rw [ws_sz]; exact info_w) ((ws_sz _).trans (ws_sz _).symm) (ws_one _) (fun w43 (hm44 : Mm w w43 [(g2, bs a, 23), (g5, bs b, 23), (g8, bs c, 23), (g11, bs 0, 23), (g35, ws ((a * b + c) / MM), 37), (g38, ws (a * b + c), 37)]) => ?_))
              refine ⟨⟨hm44.at 0 rfl, hm44.at 1 rfl, hm44.at 2 rfl⟩, ?_⟩
              refine wpAnyH_done (by kernel_rfl) ?_ _
              exact ⟨rfl, g38, g35, rfl, (Mm.reorder hm44 [0, 1, 2, 3, 5, 4] (by decide) rfl)⟩
          · refine opd rfl (wanted_none rfl) (m_alloc (c := ws 0) (T := 37) hm22 7 rfl (al_W rfl) (fun g45 w46 (hm47 : Mm w w46 [(g2, bs a, 23), (g5, bs b, 23), (g8, bs c, 23), (g11, bs 0, 23), (g45, ws 0, 37)]) => ?_))
            refine ⟨⟨hm47.at 0 rfl, hm47.at 1 rfl, hm47.at 2 rfl⟩, ?_⟩
            simp only [List.setIfInBounds_toArray, List.set_cons_zero, List.set_cons_succ]
            refine two_ready 6 11 (by kernel_rfl) ?_ ?_
            · refine opd rfl (wanted_none rfl) (m_call hm47 16 (.tuple #[.agg (ws (a * b + c)), .agg (ws ((a * b + c) / MM))]) rfl (run_product rfl rfl rfl rfl) (product_any a b c ha hb hc _) (fun w48 hm49 => ?_))
              refine ⟨⟨hm49.at 0 rfl, hm49.at 1 rfl, hm49.at 2 rfl⟩, ?_⟩
              simp only [List.setIfInBounds_toArray, List.set_cons_zero, List.set_cons_succ]
              refine Sym.take_at 7 9 (.tuple #[.agg (ws (a * b + c)), .agg (ws ((a * b + c) / MM))]) rfl rfl (by kernel_rfl) (by kernel_rfl) (by kernel_rfl) (fun _ _ _ h => nomatch h.1) (wanted_none rfl) (fun _ hw => run_mv rfl rfl) (⟨hm49.at 0 rfl, hm49.at 1 rfl, hm49.at 2 rfl⟩) ?_
              simp only [List.setIfInBounds_toArray, List.set_cons_zero, List.set_cons_succ]
              refine Sym.take_at 8 17 (.agg (ws (a * b + c))) rfl rfl (by kernel_rfl) (by kernel_rfl) (by kernel_rfl) (fun _ _ _ h => nomatch h.1) (wanted_none rfl) (fun _ hw => run_ex rfl rfl rfl) (⟨hm49.at 0 rfl, hm49.at 1 rfl, hm49.at 2 rfl⟩) ?_
              simp only [List.setIfInBounds_toArray, List.set_cons_zero, List.set_cons_succ]
              refine Sym.take_at 9 18 (.agg (ws ((a * b + c) / MM))) rfl rfl (by kernel_rfl) (by kernel_rfl) (by kernel_rfl) (fun _ _ _ h => nomatch h.1) (wanted_none rfl) (fun _ hw => run_ex rfl rfl rfl) (⟨hm49.at 0 rfl, hm49.at 1 rfl, hm49.at 2 rfl⟩) ?_
              simp only [List.setIfInBounds_toArray, List.set_cons_zero, List.set_cons_succ]
              refine one_ready 11 (by kernel_rfl) ?_
              refine opd rfl (wanted_none rfl) (m_alloc (c := ws 0) (T := 37) hm49 8 rfl (al_W rfl) (fun g50 w51 (hm52 : Mm w w51 [(g2, bs a, 23), (g5, bs b, 23), (g8, bs c, 23), (g11, bs 0, 23), (g45, ws 0, 37), (g50, ws 0, 37)]) => ?_))
              refine ⟨⟨hm52.at 0 rfl, hm52.at 1 rfl, hm52.at 2 rfl⟩, ?_⟩
              simp only [List.setIfInBounds_toArray, List.set_cons_zero, List.set_cons_succ]
              refine one_ready 12 (by kernel_rfl) ?_
              refine opd rfl (wanted_none rfl) (m_store 4 37 _ _ (ws (a * b + c)) (old := ws 0) hm52 rfl rfl rfl rfl rfl (by rw [ws_sz]; exact info_w) ((ws_sz _).trans (ws_sz _).symm) (ws_one _) (fun w53 (hm54 : Mm w w53 [(g2, bs a, 23), (g5, bs b, 23), (g8, bs c, 23), (g11, bs 0, 23), (g45, ws (a * b + c), 37), (g50, ws 0, 37)]) => ?_))
              refine ⟨⟨hm54.at 0 rfl, hm54.at 1 rfl, hm54.at 2 rfl⟩, ?_⟩
              refine one_ready 13 (by kernel_rfl) ?_
              refine opd rfl (wanted_none rfl) (m_store 5 37 _ _ (ws ((a * b + c) / MM)) (old := ws 0) hm54 rfl rfl rfl rfl rfl (by rw [ws_sz]; exact info_w) ((ws_sz _).trans (ws_sz _).symm) (ws_one _) (fun w55 (hm56 : Mm w w55 [(g2, bs a, 23), (g5, bs b, 23), (g8, bs c, 23), (g11, bs 0, 23), (g45, ws (a * b + c), 37), (g50, ws ((a * b + c) / MM), 37)]) => ?_))
              refine ⟨⟨hm56.at 0 rfl, hm56.at 1 rfl, hm56.at 2 rfl⟩, ?_⟩
              refine wpAnyH_done (by kernel_rfl) ?_ _
              exact ⟨rfl, g45, g50, rfl, hm56⟩
            · refine opd rfl (wanted_none rfl) (m_alloc (c := ws 0) (T := 37) hm47 8 rfl (al_W rfl) (fun g57 w58 (hm59 : Mm w w58 [(g2, bs a, 23), (g5, bs b, 23), (g8, bs c, 23), (g11, bs 0, 23), (g45, ws 0, 37), (g57, ws 0, 37)]) => ?_))
              refine ⟨⟨hm59.at 0 rfl, hm59.at 1 rfl, hm59.at 2 rfl⟩, ?_⟩
              simp only [List.setIfInBounds_toArray, List.set_cons_zero, List.set_cons_succ]
              refine one_ready 6 (by kernel_rfl) ?_
              refine opd rfl (wanted_none rfl) (m_call hm59 16 (.tuple #[.agg (ws (a * b + c)), .agg (ws ((a * b + c) / MM))]) rfl (run_product rfl rfl rfl rfl) (product_any a b c ha hb hc _) (fun w60 hm61 => ?_))
              refine ⟨⟨hm61.at 0 rfl, hm61.at 1 rfl, hm61.at 2 rfl⟩, ?_⟩
              simp only [List.setIfInBounds_toArray, List.set_cons_zero, List.set_cons_succ]
              refine Sym.take_at 7 9 (.tuple #[.agg (ws (a * b + c)), .agg (ws ((a * b + c) / MM))]) rfl rfl (by kernel_rfl) (by kernel_rfl) (by kernel_rfl) (fun _ _ _ h => nomatch h.1) (wanted_none rfl) (fun _ hw => run_mv rfl rfl) (⟨hm61.at 0 rfl, hm61.at 1 rfl, hm61.at 2 rfl⟩) ?_
              simp only [List.setIfInBounds_toArray, List.set_cons_zero, List.set_cons_succ]
              refine Sym.take_at 8 17 (.agg (ws (a * b + c))) rfl rfl (by kernel_rfl) (by kernel_rfl) (by kernel_rfl) (fun _ _ _ h => nomatch h.1) (wanted_none rfl) (fun _ hw => run_ex rfl rfl rfl) (⟨hm61.at 0 rfl, hm61.at 1 rfl, hm61.at 2 rfl⟩) ?_
              simp only [List.setIfInBounds_toArray, List.set_cons_zero, List.set_cons_succ]
              refine Sym.take_at 9 18 (.agg (ws ((a * b + c) / MM))) rfl rfl (by kernel_rfl) (by kernel_rfl) (by kernel_rfl) (fun _ _ _ h => nomatch h.1) (wanted_none rfl) (fun _ hw => run_ex rfl rfl rfl) (⟨hm61.at 0 rfl, hm61.at 1 rfl, hm61.at 2 rfl⟩) ?_
              simp only [List.setIfInBounds_toArray, List.set_cons_zero, List.set_cons_succ]
              refine one_ready 12 (by kernel_rfl) ?_
              refine opd rfl (wanted_none rfl) (m_store 4 37 _ _ (ws (a * b + c)) (old := ws 0) hm61 rfl rfl rfl rfl rfl (by rw [ws_sz]; exact info_w) ((ws_sz _).trans (ws_sz _).symm) (ws_one _) (fun w62 (hm63 : Mm w w62 [(g2, bs a, 23), (g5, bs b, 23), (g8, bs c, 23), (g11, bs 0, 23), (g45, ws (a * b + c), 37), (g57, ws 0, 37)]) => ?_))
              refine ⟨⟨hm63.at 0 rfl, hm63.at 1 rfl, hm63.at 2 rfl⟩, ?_⟩
              refine one_ready 13 (by kernel_rfl) ?_
              refine opd rfl (wanted_none rfl) (m_store 5 37 _ _ (ws ((a * b + c) / MM)) (old := ws 0) hm63 rfl rfl rfl rfl rfl (by rw [ws_sz]; exact info_w) ((ws_sz _).trans (ws_sz _).symm) (ws_one _) (fun w64 (hm65 : Mm w w64 [(g2, bs a, 23), (g5, bs b, 23), (g8, bs c, 23), (g11, bs 0, 23), (g45, ws (a * b + c), 37), (g57, ws ((a * b + c) / MM), 37)]) => ?_))
              refine ⟨⟨hm65.at 0 rfl, hm65.at 1 rfl, hm65.at 2 rfl⟩, ?_⟩
              refine wpAnyH_done (by kernel_rfl) ?_ _
              exact ⟨rfl, g45, g57, rfl, hm65⟩
          · refine opd rfl (wanted_none rfl) (m_alloc (c := ws 0) (T := 37) hm22 8 rfl (al_W rfl) (fun g66 w67 (hm68 : Mm w w67 [(g2, bs a, 23), (g5, bs b, 23), (g8, bs c, 23), (g11, bs 0, 23), (g66, ws 0, 37)]) => ?_))
            refine ⟨⟨hm68.at 0 rfl, hm68.at 1 rfl, hm68.at 2 rfl⟩, ?_⟩
            simp only [List.setIfInBounds_toArray, List.set_cons_zero, List.set_cons_succ]
            refine two_ready 6 10 (by kernel_rfl) ?_ ?_
            · refine opd rfl (wanted_none rfl) (m_call hm68 16 (.tuple #[.agg (ws (a * b + c)), .agg (ws ((a * b + c) / MM))]) rfl (run_product rfl rfl rfl rfl) (product_any a b c ha hb hc _) (fun w69 hm70 => ?_))
              refine ⟨⟨hm70.at 0 rfl, hm70.at 1 rfl, hm70.at 2 rfl⟩, ?_⟩
              simp only [List.setIfInBounds_toArray, List.set_cons_zero, List.set_cons_succ]
              refine Sym.take_at 7 9 (.tuple #[.agg (ws (a * b + c)), .agg (ws ((a * b + c) / MM))]) rfl rfl (by kernel_rfl) (by kernel_rfl) (by kernel_rfl) (fun _ _ _ h => nomatch h.1) (wanted_none rfl) (fun _ hw => run_mv rfl rfl) (⟨hm70.at 0 rfl, hm70.at 1 rfl, hm70.at 2 rfl⟩) ?_
              simp only [List.setIfInBounds_toArray, List.set_cons_zero, List.set_cons_succ]
              refine Sym.take_at 8 17 (.agg (ws (a * b + c))) rfl rfl (by kernel_rfl) (by kernel_rfl) (by kernel_rfl) (fun _ _ _ h => nomatch h.1) (wanted_none rfl) (fun _ hw => run_ex rfl rfl rfl) (⟨hm70.at 0 rfl, hm70.at 1 rfl, hm70.at 2 rfl⟩) ?_
              simp only [List.setIfInBounds_toArray, List.set_cons_zero, List.set_cons_succ]
              refine Sym.take_at 9 18 (.agg (ws ((a * b + c) / MM))) rfl rfl (by kernel_rfl) (by kernel_rfl) (by kernel_rfl) (fun _ _ _ h => nomatch h.1) (wanted_none rfl) (fun _ hw => run_ex rfl rfl rfl) (⟨hm70.at 0 rfl, hm70.at 1 rfl, hm70.at 2 rfl⟩) ?_
              simp only [List.setIfInBounds_toArray, List.set_cons_zero, List.set_cons_succ]
              refine one_ready 10 (by kernel_rfl) ?_
              refine opd rfl (wanted_none rfl) (m_alloc (c := ws 0) (T := 37) hm70 7 rfl (al_W rfl) (fun g71 w72 (hm73 : Mm w w72 [(g2, bs a, 23), (g5, bs b, 23), (g8, bs c, 23), (g11, bs 0, 23), (g66, ws 0, 37), (g71, ws 0, 37)]) => ?_))
              refine ⟨⟨hm73.at 0 rfl, hm73.at 1 rfl, hm73.at 2 rfl⟩, ?_⟩
              simp only [List.setIfInBounds_toArray, List.set_cons_zero, List.set_cons_succ]
              refine one_ready 12 (by kernel_rfl) ?_
              refine opd rfl (wanted_none rfl) (m_store 5 37 _ _ (ws (a * b + c)) (old := ws 0) hm73 rfl rfl rfl rfl rfl (by rw [ws_sz]; exact info_w) ((ws_sz _).trans (ws_sz _).symm) (ws_one _) (fun w74 (hm75 : Mm w w74 [(g2, bs a, 23), (g5, bs b, 23), (g8, bs c, 23), (g11, bs 0, 23), (g66, ws 0, 37), (g71, ws (a * b + c), 37)]) => ?_))
              refine ⟨⟨hm75.at 0 rfl, hm75.at 1 rfl, hm75.at 2 rfl⟩, ?_⟩
              refine one_ready 13 (by kernel_rfl) ?_
              refine opd rfl (wanted_none rfl) (m_store 4 37 _ _ (ws ((a * b + c) / MM)) (old := ws 0) hm75 rfl rfl rfl rfl rfl (by rw [ws_sz]; exact info_w) ((ws_sz _).trans (ws_sz _).symm) (ws_one _) (fun w76 (hm77 : Mm w w76 [(g2, bs a, 23), (g5, bs b, 23), (g8, bs c, 23), (g11, bs 0, 23), (g66, ws ((a * b + c) / MM), 37), (g71, ws (a * b + c), 37)]) => ?_))
              refine ⟨⟨hm77.at 0 rfl, hm77.at 1 rfl, hm77.at 2 rfl⟩, ?_⟩
              refine wpAnyH_done (by kernel_rfl) ?_ _
              exact ⟨rfl, g71, g66, rfl, (Mm.reorder hm77 [0, 1, 2, 3, 5, 4] (by decide) rfl)⟩
            · refine opd rfl (wanted_none rfl) (m_alloc (c := ws 0) (T := 37) hm68 7 rfl (al_W rfl) (fun g78 w79 (hm80 : Mm w w79 [(g2, bs a, 23), (g5, bs b, 23), (g8, bs c, 23), (g11, bs 0, 23), (g66, ws 0, 37), (g78, ws 0, 37)]) => ?_))
              refine ⟨⟨hm80.at 0 rfl, hm80.at 1 rfl, hm80.at 2 rfl⟩, ?_⟩
              simp only [List.setIfInBounds_toArray, List.set_cons_zero, List.set_cons_succ]
              refine one_ready 6 (by kernel_rfl) ?_
              refine opd rfl (wanted_none rfl) (m_call hm80 16 (.tuple #[.agg (ws (a * b + c)), .agg (ws ((a * b + c) / MM))]) rfl (run_product rfl rfl rfl rfl) (product_any a b c ha hb hc _) (fun w81 hm82 => ?_))
              refine ⟨⟨hm82.at 0 rfl, hm82.at 1 rfl, hm82.at 2 rfl⟩, ?_⟩
              simp only [List.setIfInBounds_toArray, List.set_cons_zero, List.set_cons_succ]
              refine Sym.take_at 7 9 (.tuple #[.agg (ws (a * b + c)), .agg (ws ((a * b + c) / MM))]) rfl rfl (by kernel_rfl) (by kernel_rfl) (by kernel_rfl) (fun _ _ _ h => nomatch h.1) (wanted_none rfl) (fun _ hw => run_mv rfl rfl) (⟨hm82.at 0 rfl, hm82.at 1 rfl, hm82.at 2 rfl⟩) ?_
              simp only [List.setIfInBounds_toArray, List.set_cons_zero, List.set_cons_succ]
              refine Sym.take_at 8 17 (.agg (ws (a * b + c))) rfl rfl (by kernel_rfl) (by kernel_rfl) (by kernel_rfl) (fun _ _ _ h => nomatch h.1) (wanted_none rfl) (fun _ hw => run_ex rfl rfl rfl) (⟨hm82.at 0 rfl, hm82.at 1 rfl, hm82.at 2 rfl⟩) ?_
              simp only [List.setIfInBounds_toArray, List.set_cons_zero, List.set_cons_succ]
              refine Sym.take_at 9 18 (.agg (ws ((a * b + c) / MM))) rfl rfl (by kernel_rfl) (by kernel_rfl) (by kernel_rfl) (fun _ _ _ h => nomatch h.1) (wanted_none rfl) (fun _ hw => run_ex rfl rfl rfl) (⟨hm82.at 0 rfl, hm82.at 1 rfl, hm82.at 2 rfl⟩) ?_
              simp only [List.setIfInBounds_toArray, List.set_cons_zero, List.set_cons_succ]
              refine one_ready 12 (by kernel_rfl) ?_
              refine opd rfl (wanted_none rfl) (m_store 5 37 _ _ (ws (a * b + c)) (old := ws 0) hm82 rfl rfl rfl rfl rfl (by rw [ws_sz]; exact info_w) ((ws_sz _).trans (ws_sz _).symm) (ws_one _) (fun w83 (hm84 : Mm w w83 [(g2, bs a, 23), (g5, bs b, 23), (g8, bs c, 23), (g11, bs 0, 23), (g66, ws 0, 37), (g78, ws (a * b + c), 37)]) => ?_))
              refine ⟨⟨hm84.at 0 rfl, hm84.at 1 rfl, hm84.at 2 rfl⟩, ?_⟩
              refine one_ready 13 (by kernel_rfl) ?_
              refine opd rfl (wanted_none rfl) (m_store 4 37 _ _ (ws ((a * b + c) / MM)) (old := ws 0) hm84 rfl rfl rfl rfl rfl (by rw [ws_sz]; exact info_w) ((ws_sz _).trans (ws_sz _).symm) (ws_one _) (fun w85 (hm86 : Mm w w85 [(g2, bs a, 23), (g5, bs b, 23), (g8, bs c, 23), (g11, bs 0, 23), (g66, ws ((a * b + c) / MM), 37), (g78, ws (a * b + c), 37)]) => ?_))
              refine ⟨⟨hm86.at 0 rfl, hm86.at 1 rfl, hm86.at 2 rfl⟩, ?_⟩
              refine wpAnyH_done (by kernel_rfl) ?_ _
              exact ⟨rfl, g78, g66, rfl, (Mm.reorder hm86 [0, 1, 2, 3, 5, 4] (by decide) rfl)⟩
        · refine opd rfl (wanted_none rfl) (m_alloc (c := ws 0) (T := 37) hm20 7 rfl (al_W rfl) (fun g87 w88 (hm89 : Mm w w88 [(g2, bs a, 23), (g5, bs b, 23), (g8, bs c, 23), (g11, bs 0, 23), (g87, ws 0, 37)]) => ?_))
          refine ⟨⟨hm89.at 0 rfl, hm89.at 1 rfl, hm89.at 2 rfl⟩, ?_⟩
          simp only [List.setIfInBounds_toArray, List.set_cons_zero, List.set_cons_succ]
          refine two_ready 5 11 (by kernel_rfl) ?_ ?_
          · refine opd rfl (wanted_none rfl) (m_call hm89 15 (.agg (ws c)) rfl (run_load rfl rfl) (load_any c _) (fun w90 hm91 => ?_))
            refine ⟨⟨hm91.at 0 rfl, hm91.at 1 rfl, hm91.at 2 rfl⟩, ?_⟩
            simp only [List.setIfInBounds_toArray, List.set_cons_zero, List.set_cons_succ]
            refine two_ready 6 11 (by kernel_rfl) ?_ ?_
            · refine opd rfl (wanted_none rfl) (m_call hm91 16 (.tuple #[.agg (ws (a * b + c)), .agg (ws ((a * b + c) / MM))]) rfl (run_product rfl rfl rfl rfl) (product_any a b c ha hb hc _) (fun w92 hm93 => ?_))
              refine ⟨⟨hm93.at 0 rfl, hm93.at 1 rfl, hm93.at 2 rfl⟩, ?_⟩
              simp only [List.setIfInBounds_toArray, List.set_cons_zero, List.set_cons_succ]
              refine Sym.take_at 7 9 (.tuple #[.agg (ws (a * b + c)), .agg (ws ((a * b + c) / MM))]) rfl rfl (by kernel_rfl) (by kernel_rfl) (by kernel_rfl) (fun _ _ _ h => nomatch h.1) (wanted_none rfl) (fun _ hw => run_mv rfl rfl) (⟨hm93.at 0 rfl, hm93.at 1 rfl, hm93.at 2 rfl⟩) ?_
              simp only [List.setIfInBounds_toArray, List.set_cons_zero, List.set_cons_succ]
              refine Sym.take_at 8 17 (.agg (ws (a * b + c))) rfl rfl (by kernel_rfl) (by kernel_rfl) (by kernel_rfl) (fun _ _ _ h => nomatch h.1) (wanted_none rfl) (fun _ hw => run_ex rfl rfl rfl) (⟨hm93.at 0 rfl, hm93.at 1 rfl, hm93.at 2 rfl⟩) ?_
              simp only [List.setIfInBounds_toArray, List.set_cons_zero, List.set_cons_succ]
              refine Sym.take_at 9 18 (.agg (ws ((a * b + c) / MM))) rfl rfl (by kernel_rfl) (by kernel_rfl) (by kernel_rfl) (fun _ _ _ h => nomatch h.1) (wanted_none rfl) (fun _ hw => run_ex rfl rfl rfl) (⟨hm93.at 0 rfl, hm93.at 1 rfl, hm93.at 2 rfl⟩) ?_
              simp only [List.setIfInBounds_toArray, List.set_cons_zero, List.set_cons_succ]
              refine one_ready 11 (by kernel_rfl) ?_
              refine opd rfl (wanted_none rfl) (m_alloc (c := ws 0) (T := 37) hm93 8 rfl (al_W rfl) (fun g94 w95 (hm96 : Mm w w95 [(g2, bs a, 23), (g5, bs b, 23), (g8, bs c, 23), (g11, bs 0, 23), (g87, ws 0, 37), (g94, ws 0, 37)]) => ?_))
              refine ⟨⟨hm96.at 0 rfl, hm96.at 1 rfl, hm96.at 2 rfl⟩, ?_⟩
              simp only [List.setIfInBounds_toArray, List.set_cons_zero, List.set_cons_succ]
              refine one_ready 12 (by kernel_rfl) ?_
              refine opd rfl (wanted_none rfl) (m_store 4 37 _ _ (ws (a * b + c)) (old := ws 0) hm96 rfl rfl rfl rfl rfl (by rw [ws_sz]; exact info_w) ((ws_sz _).trans (ws_sz _).symm) (ws_one _) (fun w97 (hm98 : Mm w w97 [(g2, bs a, 23), (g5, bs b, 23), (g8, bs c, 23), (g11, bs 0, 23), (g87, ws (a * b + c), 37), (g94, ws 0, 37)]) => ?_))
              refine ⟨⟨hm98.at 0 rfl, hm98.at 1 rfl, hm98.at 2 rfl⟩, ?_⟩
              refine one_ready 13 (by kernel_rfl) ?_
              refine opd rfl (wanted_none rfl) (m_store 5 37 _ _ (ws ((a * b + c) / MM)) (old := ws 0) hm98 rfl rfl rfl rfl rfl (by rw [ws_sz]; exact info_w) ((ws_sz _).trans (ws_sz _).symm) (ws_one _) (fun w99 (hm100 : Mm w w99 [(g2, bs a, 23), (g5, bs b, 23), (g8, bs c, 23), (g11, bs 0, 23), (g87, ws (a * b + c), 37), (g94, ws ((a * b + c) / MM), 37)]) => ?_))
              refine ⟨⟨hm100.at 0 rfl, hm100.at 1 rfl, hm100.at 2 rfl⟩, ?_⟩
              refine wpAnyH_done (by kernel_rfl) ?_ _
              exact ⟨rfl, g87, g94, rfl, hm100⟩
            · refine opd rfl (wanted_none rfl) (m_alloc (c := ws 0) (T := 37) hm91 8 rfl (al_W rfl) (fun g101 w102 (hm103 : Mm w w102 [(g2, bs a, 23), (g5, bs b, 23), (g8, bs c, 23), (g11, bs 0, 23), (g87, ws 0, 37), (g101, ws 0, 37)]) => ?_))
              refine ⟨⟨hm103.at 0 rfl, hm103.at 1 rfl, hm103.at 2 rfl⟩, ?_⟩
              simp only [List.setIfInBounds_toArray, List.set_cons_zero, List.set_cons_succ]
              refine one_ready 6 (by kernel_rfl) ?_
              refine opd rfl (wanted_none rfl) (m_call hm103 16 (.tuple #[.agg (ws (a * b + c)), .agg (ws ((a * b + c) / MM))]) rfl (run_product rfl rfl rfl rfl) (product_any a b c ha hb hc _) (fun w104 hm105 => ?_))
              refine ⟨⟨hm105.at 0 rfl, hm105.at 1 rfl, hm105.at 2 rfl⟩, ?_⟩
              simp only [List.setIfInBounds_toArray, List.set_cons_zero, List.set_cons_succ]
              refine Sym.take_at 7 9 (.tuple #[.agg (ws (a * b + c)), .agg (ws ((a * b + c) / MM))]) rfl rfl (by kernel_rfl) (by kernel_rfl) (by kernel_rfl) (fun _ _ _ h => nomatch h.1) (wanted_none rfl) (fun _ hw => run_mv rfl rfl) (⟨hm105.at 0 rfl, hm105.at 1 rfl, hm105.at 2 rfl⟩) ?_
              simp only [List.setIfInBounds_toArray, List.set_cons_zero, List.set_cons_succ]
              refine Sym.take_at 8 17 (.agg (ws (a * b + c))) rfl rfl (by kernel_rfl) (by kernel_rfl) (by kernel_rfl) (fun _ _ _ h => nomatch h.1) (wanted_none rfl) (fun _ hw => run_ex rfl rfl rfl) (⟨hm105.at 0 rfl, hm105.at 1 rfl, hm105.at 2 rfl⟩) ?_
              simp only [List.setIfInBounds_toArray, List.set_cons_zero, List.set_cons_succ]
              refine Sym.take_at 9 18 (.agg (ws ((a * b + c) / MM))) rfl rfl (by kernel_rfl) (by kernel_rfl) (by kernel_rfl) (fun _ _ _ h => nomatch h.1) (wanted_none rfl) (fun _ hw => run_ex rfl rfl rfl) (⟨hm105.at 0 rfl, hm105.at 1 rfl, hm105.at 2 rfl⟩) ?_
              simp only [List.setIfInBounds_toArray, List.set_cons_zero, List.set_cons_succ]
              refine one_ready 12 (by kernel_rfl) ?_
              refine opd rfl (wanted_none rfl) (m_store 4 37 _ _ (ws (a * b + c)) (old := ws 0) hm105 rfl rfl rfl rfl rfl (by rw [ws_sz]; exact info_w) ((ws_sz _).trans (ws_sz _).symm) (ws_one _) (fun w106 (hm107 : Mm w w106 [(g2, bs a, 23), (g5, bs b, 23), (g8, bs c, 23), (g11, bs 0, 23), (g87, ws (a * b + c), 37), (g101, ws 0, 37)]) => ?_))
              refine ⟨⟨hm107.at 0 rfl, hm107.at 1 rfl, hm107.at 2 rfl⟩, ?_⟩
              refine one_ready 13 (by kernel_rfl) ?_
              refine opd rfl (wanted_none rfl) (m_store 5 37 _ _ (ws ((a * b + c) / MM)) (old := ws 0) hm107 rfl rfl rfl rfl rfl (by rw [ws_sz]; exact info_w) ((ws_sz _).trans (ws_sz _).symm) (ws_one _) (fun w108 (hm109 : Mm w w108 [(g2, bs a, 23), (g5, bs b, 23), (g8, bs c, 23), (g11, bs 0, 23), (g87, ws (a * b + c), 37), (g101, ws ((a * b + c) / MM), 37)]) => ?_))
              refine ⟨⟨hm109.at 0 rfl, hm109.at 1 rfl, hm109.at 2 rfl⟩, ?_⟩
              refine wpAnyH_done (by kernel_rfl) ?_ _
              exact ⟨rfl, g87, g101, rfl, hm109⟩
          · refine opd rfl (wanted_none rfl) (m_alloc (c := ws 0) (T := 37) hm89 8 rfl (al_W rfl) (fun g110 w111 (hm112 : Mm w w111 [(g2, bs a, 23), (g5, bs b, 23), (g8, bs c, 23), (g11, bs 0, 23), (g87, ws 0, 37), (g110, ws 0, 37)]) => ?_))
            refine ⟨⟨hm112.at 0 rfl, hm112.at 1 rfl, hm112.at 2 rfl⟩, ?_⟩
            simp only [List.setIfInBounds_toArray, List.set_cons_zero, List.set_cons_succ]
            refine one_ready 5 (by kernel_rfl) ?_
            refine opd rfl (wanted_none rfl) (m_call hm112 15 (.agg (ws c)) rfl (run_load rfl rfl) (load_any c _) (fun w113 hm114 => ?_))
            refine ⟨⟨hm114.at 0 rfl, hm114.at 1 rfl, hm114.at 2 rfl⟩, ?_⟩
            simp only [List.setIfInBounds_toArray, List.set_cons_zero, List.set_cons_succ]
            refine one_ready 6 (by kernel_rfl) ?_
            refine opd rfl (wanted_none rfl) (m_call hm114 16 (.tuple #[.agg (ws (a * b + c)), .agg (ws ((a * b + c) / MM))]) rfl (run_product rfl rfl rfl rfl) (product_any a b c ha hb hc _) (fun w115 hm116 => ?_))
            refine ⟨⟨hm116.at 0 rfl, hm116.at 1 rfl, hm116.at 2 rfl⟩, ?_⟩
            simp only [List.setIfInBounds_toArray, List.set_cons_zero, List.set_cons_succ]
            refine Sym.take_at 7 9 (.tuple #[.agg (ws (a * b + c)), .agg (ws ((a * b + c) / MM))]) rfl rfl (by kernel_rfl) (by kernel_rfl) (by kernel_rfl) (fun _ _ _ h => nomatch h.1) (wanted_none rfl) (fun _ hw => run_mv rfl rfl) (⟨hm116.at 0 rfl, hm116.at 1 rfl, hm116.at 2 rfl⟩) ?_
            simp only [List.setIfInBounds_toArray, List.set_cons_zero, List.set_cons_succ]
            refine Sym.take_at 8 17 (.agg (ws (a * b + c))) rfl rfl (by kernel_rfl) (by kernel_rfl) (by kernel_rfl) (fun _ _ _ h => nomatch h.1) (wanted_none rfl) (fun _ hw => run_ex rfl rfl rfl) (⟨hm116.at 0 rfl, hm116.at 1 rfl, hm116.at 2 rfl⟩) ?_
            simp only [List.setIfInBounds_toArray, List.set_cons_zero, List.set_cons_succ]
            refine Sym.take_at 9 18 (.agg (ws ((a * b + c) / MM))) rfl rfl (by kernel_rfl) (by kernel_rfl) (by kernel_rfl) (fun _ _ _ h => nomatch h.1) (wanted_none rfl) (fun _ hw => run_ex rfl rfl rfl) (⟨hm116.at 0 rfl, hm116.at 1 rfl, hm116.at 2 rfl⟩) ?_
            simp only [List.setIfInBounds_toArray, List.set_cons_zero, List.set_cons_succ]
            refine one_ready 12 (by kernel_rfl) ?_
            refine opd rfl (wanted_none rfl) (m_store 4 37 _ _ (ws (a * b + c)) (old := ws 0) hm116 rfl rfl rfl rfl rfl (by rw [ws_sz]; exact info_w) ((ws_sz _).trans (ws_sz _).symm) (ws_one _) (fun w117 (hm118 : Mm w w117 [(g2, bs a, 23), (g5, bs b, 23), (g8, bs c, 23), (g11, bs 0, 23), (g87, ws (a * b + c), 37), (g110, ws 0, 37)]) => ?_))
            refine ⟨⟨hm118.at 0 rfl, hm118.at 1 rfl, hm118.at 2 rfl⟩, ?_⟩
            refine one_ready 13 (by kernel_rfl) ?_
            refine opd rfl (wanted_none rfl) (m_store 5 37 _ _ (ws ((a * b + c) / MM)) (old := ws 0) hm118 rfl rfl rfl rfl rfl (by rw [ws_sz]; exact info_w) ((ws_sz _).trans (ws_sz _).symm) (ws_one _) (fun w119 (hm120 : Mm w w119 [(g2, bs a, 23), (g5, bs b, 23), (g8, bs c, 23), (g11, bs 0, 23), (g87, ws (a * b + c), 37), (g110, ws ((a * b + c) / MM), 37)]) => ?_))
            refine ⟨⟨hm120.at 0 rfl, hm120.at 1 rfl, hm120.at 2 rfl⟩, ?_⟩
            refine wpAnyH_done (by kernel_rfl) ?_ _
            exact ⟨rfl, g87, g110, rfl, hm120⟩
        · refine opd rfl (wanted_none rfl) (m_alloc (c := ws 0) (T := 37) hm20 8 rfl (al_W rfl) (fun g121 w122 (hm123 : Mm w w122 [(g2, bs a, 23), (g5, bs b, 23), (g8, bs c, 23), (g11, bs 0, 23), (g121, ws 0, 37)]) => ?_))
          refine ⟨⟨hm123.at 0 rfl, hm123.at 1 rfl, hm123.at 2 rfl⟩, ?_⟩
          simp only [List.setIfInBounds_toArray, List.set_cons_zero, List.set_cons_succ]
          refine two_ready 5 10 (by kernel_rfl) ?_ ?_
          · refine opd rfl (wanted_none rfl) (m_call hm123 15 (.agg (ws c)) rfl (run_load rfl rfl) (load_any c _) (fun w124 hm125 => ?_))
            refine ⟨⟨hm125.at 0 rfl, hm125.at 1 rfl, hm125.at 2 rfl⟩, ?_⟩
            simp only [List.setIfInBounds_toArray, List.set_cons_zero, List.set_cons_succ]
            refine two_ready 6 10 (by kernel_rfl) ?_ ?_
            · refine opd rfl (wanted_none rfl) (m_call hm125 16 (.tuple #[.agg (ws (a * b + c)), .agg (ws ((a * b + c) / MM))]) rfl (run_product rfl rfl rfl rfl) (product_any a b c ha hb hc _) (fun w126 hm127 => ?_))
              refine ⟨⟨hm127.at 0 rfl, hm127.at 1 rfl, hm127.at 2 rfl⟩, ?_⟩
              simp only [List.setIfInBounds_toArray, List.set_cons_zero, List.set_cons_succ]
              refine Sym.take_at 7 9 (.tuple #[.agg (ws (a * b + c)), .agg (ws ((a * b + c) / MM))]) rfl rfl (by kernel_rfl) (by kernel_rfl) (by kernel_rfl) (fun _ _ _ h => nomatch h.1) (wanted_none rfl) (fun _ hw => run_mv rfl rfl) (⟨hm127.at 0 rfl, hm127.at 1 rfl, hm127.at 2 rfl⟩) ?_
              simp only [List.setIfInBounds_toArray, List.set_cons_zero, List.set_cons_succ]
              refine Sym.take_at 8 17 (.agg (ws (a * b + c))) rfl rfl (by kernel_rfl) (by kernel_rfl) (by kernel_rfl) (fun _ _ _ h => nomatch h.1) (wanted_none rfl) (fun _ hw => run_ex rfl rfl rfl) (⟨hm127.at 0 rfl, hm127.at 1 rfl, hm127.at 2 rfl⟩) ?_
              simp only [List.setIfInBounds_toArray, List.set_cons_zero, List.set_cons_succ]
              refine Sym.take_at 9 18 (.agg (ws ((a * b + c) / MM))) rfl rfl (by kernel_rfl) (by kernel_rfl) (by kernel_rfl) (fun _ _ _ h => nomatch h.1) (wanted_none rfl) (fun _ hw => run_ex rfl rfl rfl) (⟨hm127.at 0 rfl, hm127.at 1 rfl, hm127.at 2 rfl⟩) ?_
              simp only [List.setIfInBounds_toArray, List.set_cons_zero, List.set_cons_succ]
              refine one_ready 10 (by kernel_rfl) ?_
              refine opd rfl (wanted_none rfl) (m_alloc (c := ws 0) (T := 37) hm127 7 rfl (al_W rfl) (fun g128 w129 (hm130 : Mm w w129 [(g2, bs a, 23), (g5, bs b, 23), (g8, bs c, 23), (g11, bs 0, 23), (g121, ws 0, 37), (g128, ws 0, 37)]) => ?_))
              refine ⟨⟨hm130.at 0 rfl, hm130.at 1 rfl, hm130.at 2 rfl⟩, ?_⟩
              simp only [List.setIfInBounds_toArray, List.set_cons_zero, List.set_cons_succ]
              refine one_ready 12 (by kernel_rfl) ?_
              refine opd rfl (wanted_none rfl) (m_store 5 37 _ _ (ws (a * b + c)) (old := ws 0) hm130 rfl rfl rfl rfl rfl (by rw [ws_sz]; exact info_w) ((ws_sz _).trans (ws_sz _).symm) (ws_one _) (fun w131 (hm132 : Mm w w131 [(g2, bs a, 23), (g5, bs b, 23), (g8, bs c, 23), (g11, bs 0, 23), (g121, ws 0, 37), (g128, ws (a * b + c), 37)]) => ?_))
              refine ⟨⟨hm132.at 0 rfl, hm132.at 1 rfl, hm132.at 2 rfl⟩, ?_⟩
              refine one_ready 13 (by kernel_rfl) ?_
              refine opd rfl (wanted_none rfl) (m_store 4 37 _ _ (ws ((a * b + c) / MM)) (old := ws 0) hm132 rfl rfl rfl rfl rfl (by rw [ws_sz]; exact info_w) ((ws_sz _).trans (ws_sz _).symm) (ws_one _) (fun w133 (hm134 : Mm w w133 [(g2, bs a, 23), (g5, bs b, 23), (g8, bs c, 23), (g11, bs 0, 23), (g121, ws ((a * b + c) / MM), 37), (g128, ws (a * b + c), 37)]) => ?_))
              refine ⟨⟨hm134.at 0 rfl, hm134.at 1 rfl, hm134.at 2 rfl⟩, ?_⟩
              refine wpAnyH_done (by kernel_rfl) ?_ _
              exact ⟨rfl, g128, g121, rfl, (Mm.reorder hm134 [0, 1, 2, 3, 5, 4] (by decide) rfl)⟩
            · refine opd rfl (wanted_none rfl) (m_alloc (c := ws 0) (T := 37) hm125 7 rfl (al_W rfl) (fun g135 w136 (hm137 : Mm w w136 [(g2, bs a, 23), (g5, bs b, 23), (g8, bs c, 23), (g11, bs 0, 23), (g121, ws 0, 37), (g135, ws 0, 37)]) => ?_))
              refine ⟨⟨hm137.at 0 rfl, hm137.at 1 rfl, hm137.at 2 rfl⟩, ?_⟩
              simp only [List.setIfInBounds_toArray, List.set_cons_zero, List.set_cons_succ]
              refine one_ready 6 (by kernel_rfl) ?_
              refine opd rfl (wanted_none rfl) (m_call hm137 16 (.tuple #[.agg (ws (a * b + c)), .agg (ws ((a * b + c) / MM))]) rfl (run_product rfl rfl rfl rfl) (product_any a b c ha hb hc _) (fun w138 hm139 => ?_))
              refine ⟨⟨hm139.at 0 rfl, hm139.at 1 rfl, hm139.at 2 rfl⟩, ?_⟩
              simp only [List.setIfInBounds_toArray, List.set_cons_zero, List.set_cons_succ]
              refine Sym.take_at 7 9 (.tuple #[.agg (ws (a * b + c)), .agg (ws ((a * b + c) / MM))]) rfl rfl (by kernel_rfl) (by kernel_rfl) (by kernel_rfl) (fun _ _ _ h => nomatch h.1) (wanted_none rfl) (fun _ hw => run_mv rfl rfl) (⟨hm139.at 0 rfl, hm139.at 1 rfl, hm139.at 2 rfl⟩) ?_
              simp only [List.setIfInBounds_toArray, List.set_cons_zero, List.set_cons_succ]
              refine Sym.take_at 8 17 (.agg (ws (a * b + c))) rfl rfl (by kernel_rfl) (by kernel_rfl) (by kernel_rfl) (fun _ _ _ h => nomatch h.1) (wanted_none rfl) (fun _ hw => run_ex rfl rfl rfl) (⟨hm139.at 0 rfl, hm139.at 1 rfl, hm139.at 2 rfl⟩) ?_
              simp only [List.setIfInBounds_toArray, List.set_cons_zero, List.set_cons_succ]
              refine Sym.take_at 9 18 (.agg (ws ((a * b + c) / MM))) rfl rfl (by kernel_rfl) (by kernel_rfl) (by kernel_rfl) (fun _ _ _ h => nomatch h.1) (wanted_none rfl) (fun _ hw => run_ex rfl rfl rfl) (⟨hm139.at 0 rfl, hm139.at 1 rfl, hm139.at 2 rfl⟩) ?_
              simp only [List.setIfInBounds_toArray, List.set_cons_zero, List.set_cons_succ]
              refine one_ready 12 (by kernel_rfl) ?_
              refine opd rfl (wanted_none rfl) (m_store 5 37 _ _ (ws (a * b + c)) (old := ws 0) hm139 rfl rfl rfl rfl rfl (by rw [ws_sz]; exact info_w) ((ws_sz _).trans (ws_sz _).symm) (ws_one _) (fun w140 (hm141 : Mm w w140 [(g2, bs a, 23), (g5, bs b, 23), (g8, bs c, 23), (g11, bs 0, 23), (g121, ws 0, 37), (g135, ws (a * b + c), 37)]) => ?_))
              refine ⟨⟨hm141.at 0 rfl, hm141.at 1 rfl, hm141.at 2 rfl⟩, ?_⟩
              refine one_ready 13 (by kernel_rfl) ?_
              refine opd rfl (wanted_none rfl) (m_store 4 37 _ _ (ws ((a * b + c) / MM)) (old := ws 0) hm141 rfl rfl rfl rfl rfl (by rw [ws_sz]; exact info_w) ((ws_sz _).trans (ws_sz _).symm) (ws_one _) (fun w142 (hm143 : Mm w w142 [(g2, bs a, 23), (g5, bs b, 23), (g8, bs c, 23), (g11, bs 0, 23), (g121, ws ((a * b + c) / MM), 37), (g135, ws (a * b + c), 37)]) => ?_))
              refine ⟨⟨hm143.at 0 rfl, hm143.at 1 rfl, hm143.at 2 rfl⟩, ?_⟩
              refine wpAnyH_done (by kernel_rfl) ?_ _
              exact ⟨rfl, g135, g121, rfl, (Mm.reorder hm143 [0, 1, 2, 3, 5, 4] (by decide) rfl)⟩
          · refine opd rfl (wanted_none rfl) (m_alloc (c := ws 0) (T := 37) hm123 7 rfl (al_W rfl) (fun g144 w145 (hm146 : Mm w w145 [(g2, bs a, 23), (g5, bs b, 23), (g8, bs c, 23), (g11, bs 0, 23), (g121, ws 0, 37), (g144, ws 0, 37)]) => ?_))
            refine ⟨⟨hm146.at 0 rfl, hm146.at 1 rfl, hm146.at 2 rfl⟩, ?_⟩
            simp only [List.setIfInBounds_toArray, List.set_cons_zero, List.set_cons_succ]
            refine one_ready 5 (by kernel_rfl) ?_
            refine opd rfl (wanted_none rfl) (m_call hm146 15 (.agg (ws c)) rfl (run_load rfl rfl) (load_any c _) (fun w147 hm148 => ?_))
            refine ⟨⟨hm148.at 0 rfl, hm148.at 1 rfl, hm148.at 2 rfl⟩, ?_⟩
            simp only [List.setIfInBounds_toArray, List.set_cons_zero, List.set_cons_succ]
            refine one_ready 6 (by kernel_rfl) ?_
            refine opd rfl (wanted_none rfl) (m_call hm148 16 (.tuple #[.agg (ws (a * b + c)), .agg (ws ((a * b + c) / MM))]) rfl (run_product rfl rfl rfl rfl) (product_any a b c ha hb hc _) (fun w149 hm150 => ?_))
            refine ⟨⟨hm150.at 0 rfl, hm150.at 1 rfl, hm150.at 2 rfl⟩, ?_⟩
            simp only [List.setIfInBounds_toArray, List.set_cons_zero, List.set_cons_succ]
            refine Sym.take_at 7 9 (.tuple #[.agg (ws (a * b + c)), .agg (ws ((a * b + c) / MM))]) rfl rfl (by kernel_rfl) (by kernel_rfl) (by kernel_rfl) (fun _ _ _ h => nomatch h.1) (wanted_none rfl) (fun _ hw => run_mv rfl rfl) (⟨hm150.at 0 rfl, hm150.at 1 rfl, hm150.at 2 rfl⟩) ?_
            simp only [List.setIfInBounds_toArray, List.set_cons_zero, List.set_cons_succ]
            refine Sym.take_at 8 17 (.agg (ws (a * b + c))) rfl rfl (by kernel_rfl) (by kernel_rfl) (by kernel_rfl) (fun _ _ _ h => nomatch h.1) (wanted_none rfl) (fun _ hw => run_ex rfl rfl rfl) (⟨hm150.at 0 rfl, hm150.at 1 rfl, hm150.at 2 rfl⟩) ?_
            simp only [List.setIfInBounds_toArray, List.set_cons_zero, List.set_cons_succ]
            refine Sym.take_at 9 18 (.agg (ws ((a * b + c) / MM))) rfl rfl (by kernel_rfl) (by kernel_rfl) (by kernel_rfl) (fun _ _ _ h => nomatch h.1) (wanted_none rfl) (fun _ hw => run_ex rfl rfl rfl) (⟨hm150.at 0 rfl, hm150.at 1 rfl, hm150.at 2 rfl⟩) ?_
            simp only [List.setIfInBounds_toArray, List.set_cons_zero, List.set_cons_succ]
            refine one_ready 12 (by kernel_rfl) ?_
            refine opd rfl (wanted_none rfl) (m_store 5 37 _ _ (ws (a * b + c)) (old := ws 0) hm150 rfl rfl rfl rfl rfl (by rw [ws_sz]; exact info_w) ((ws_sz _).trans (ws_sz _).symm) (ws_one _) (fun w151 (hm152 : Mm w w151 [(g2, bs a, 23), (g5, bs b, 23), (g8, bs c, 23), (g11, bs 0, 23), (g121, ws 0, 37), (g144, ws (a * b + c), 37)]) => ?_))
            refine ⟨⟨hm152.at 0 rfl, hm152.at 1 rfl, hm152.at 2 rfl⟩, ?_⟩
            refine one_ready 13 (by kernel_rfl) ?_
            refine opd rfl (wanted_none rfl) (m_store 4 37 _ _ (ws ((a * b + c) / MM)) (old := ws 0) hm152 rfl rfl rfl rfl rfl (by rw [ws_sz]; exact info_w) ((ws_sz _).trans (ws_sz _).symm) (ws_one _) (fun w153 (hm154 : Mm w w153 [(g2, bs a, 23), (g5, bs b, 23), (g8, bs c, 23), (g11, bs 0, 23), (g121, ws ((a * b + c) / MM), 37), (g144, ws (a * b + c), 37)]) => ?_))
            refine ⟨⟨hm154.at 0 rfl, hm154.at 1 rfl, hm154.at 2 rfl⟩, ?_⟩
            refine wpAnyH_done (by kernel_rfl) ?_ _
            exact ⟨rfl, g144, g121, rfl, (Mm.reorder hm154 [0, 1, 2, 3, 5, 4] (by decide) rfl)⟩
      · refine opd rfl (wanted_none rfl) (m_alloc (c := ws 0) (T := 37) hm18 7 rfl (al_W rfl) (fun g155 w156 (hm157 : Mm w w156 [(g2, bs a, 23), (g5, bs b, 23), (g8, bs c, 23), (g11, bs 0, 23), (g155, ws 0, 37)]) => ?_))
        refine ⟨⟨hm157.at 0 rfl, hm157.at 1 rfl, hm157.at 2 rfl⟩, ?_⟩
        simp only [List.setIfInBounds_toArray, List.set_cons_zero, List.set_cons_succ]
        refine two_ready 3 11 (by kernel_rfl) ?_ ?_
        · refine opd rfl (wanted_none rfl) (m_call hm157 13 (.agg (ws b)) rfl (run_load rfl rfl) (load_any b _) (fun w158 hm159 => ?_))
          refine ⟨⟨hm159.at 0 rfl, hm159.at 1 rfl, hm159.at 2 rfl⟩, ?_⟩
          simp only [List.setIfInBounds_toArray, List.set_cons_zero, List.set_cons_succ]
          refine two_ready 5 11 (by kernel_rfl) ?_ ?_
          · refine opd rfl (wanted_none rfl) (m_call hm159 15 (.agg (ws c)) rfl (run_load rfl rfl) (load_any c _) (fun w160 hm161 => ?_))
            refine ⟨⟨hm161.at 0 rfl, hm161.at 1 rfl, hm161.at 2 rfl⟩, ?_⟩
            simp only [List.setIfInBounds_toArray, List.set_cons_zero, List.set_cons_succ]
            refine two_ready 6 11 (by kernel_rfl) ?_ ?_
            · refine opd rfl (wanted_none rfl) (m_call hm161 16 (.tuple #[.agg (ws (a * b + c)), .agg (ws ((a * b + c) / MM))]) rfl (run_product rfl rfl rfl rfl) (product_any a b c ha hb hc _) (fun w162 hm163 => ?_))
              refine ⟨⟨hm163.at 0 rfl, hm163.at 1 rfl, hm163.at 2 rfl⟩, ?_⟩
              simp only [List.setIfInBounds_toArray, List.set_cons_zero, List.set_cons_succ]
              refine Sym.take_at 7 9 (.tuple #[.agg (ws (a * b + c)), .agg (ws ((a * b + c) / MM))]) rfl rfl (by kernel_rfl) (by kernel_rfl) (by kernel_rfl) (fun _ _ _ h => nomatch h.1) (wanted_none rfl) (fun _ hw => run_mv rfl rfl) (⟨hm163.at 0 rfl, hm163.at 1 rfl, hm163.at 2 rfl⟩) ?_
              simp only [List.setIfInBounds_toArray, List.set_cons_zero, List.set_cons_succ]
              refine Sym.take_at 8 17 (.agg (ws (a * b + c))) rfl rfl (by kernel_rfl) (by kernel_rfl) (by kernel_rfl) (fun _ _ _ h => nomatch h.1) (wanted_none rfl) (fun _ hw => run_ex rfl rfl rfl) (⟨hm163.at 0 rfl, hm163.at 1 rfl, hm163.at 2 rfl⟩) ?_
              simp only [List.setIfInBounds_toArray, List.set_cons_zero, List.set_cons_succ]
              refine Sym.take_at 9 18 (.agg (ws ((a * b + c) / MM))) rfl rfl (by kernel_rfl) (by kernel_rfl) (by kernel_rfl) (fun _ _ _ h => nomatch h.1) (wanted_none rfl) (fun _ hw => run_ex rfl rfl rfl) (⟨hm163.at 0 rfl, hm163.at 1 rfl, hm163.at 2 rfl⟩) ?_
              simp only [List.setIfInBounds_toArray, List.set_cons_zero, List.set_cons_succ]
              refine one_ready 11 (by kernel_rfl) ?_
              refine opd rfl (wanted_none rfl) (m_alloc (c := ws 0) (T := 37) hm163 8 rfl (al_W rfl) (fun g164 w165 (hm166 : Mm w w165 [(g2, bs a, 23), (g5, bs b, 23), (g8, bs c, 23), (g11, bs 0, 23), (g155, ws 0, 37), (g164, ws 0, 37)]) => ?_))
              refine ⟨⟨hm166.at 0 rfl, hm166.at 1 rfl, hm166.at 2 rfl⟩, ?_⟩
              simp only [List.setIfInBounds_toArray, List.set_cons_zero, List.set_cons_succ]
              refine one_ready 12 (by kernel_rfl) ?_
              refine opd rfl (wanted_none rfl) (m_store 4 37 _ _ (ws (a * b + c)) (old := ws 0) hm166 rfl rfl rfl rfl rfl (by rw [ws_sz]; exact info_w) ((ws_sz _).trans (ws_sz _).symm) (ws_one _) (fun w167 (hm168 : Mm w w167 [(g2, bs a, 23), (g5, bs b, 23), (g8, bs c, 23), (g11, bs 0, 23), (g155, ws (a * b + c), 37), (g164, ws 0, 37)]) => ?_))
              refine ⟨⟨hm168.at 0 rfl, hm168.at 1 rfl, hm168.at 2 rfl⟩, ?_⟩
              refine one_ready 13 (by kernel_rfl) ?_
              refine opd rfl (wanted_none rfl) (m_store 5 37 _ _ (ws ((a * b + c) / MM)) (old := ws 0) hm168 rfl rfl rfl rfl rfl (by rw [ws_sz]; exact info_w) ((ws_sz _).trans (ws_sz _).symm) (ws_one _) (fun w169 (hm170 : Mm w w169 [(g2, bs a, 23), (g5, bs b, 23), (g8, bs c, 23), (g11, bs 0, 23), (g155, ws (a * b + c), 37), (g164, ws ((a * b + c) / MM), 37)]) => ?_))
              refine ⟨⟨hm170.at 0 rfl, hm170.at 1 rfl, hm170.at 2 rfl⟩, ?_⟩
              refine wpAnyH_done (by kernel_rfl) ?_ _
              exact ⟨rfl, g155, g164, rfl, hm170⟩
            · refine opd rfl (wanted_none rfl) (m_alloc (c := ws 0) (T := 37) hm161 8 rfl (al_W rfl) (fun g171 w172 (hm173 : Mm w w172 [(g2, bs a, 23), (g5, bs b, 23), (g8, bs c, 23), (g11, bs 0, 23), (g155, ws 0, 37), (g171, ws 0, 37)]) => ?_))
              refine ⟨⟨hm173.at 0 rfl, hm173.at 1 rfl, hm173.at 2 rfl⟩, ?_⟩
              simp only [List.setIfInBounds_toArray, List.set_cons_zero, List.set_cons_succ]
              refine one_ready 6 (by kernel_rfl) ?_
              refine opd rfl (wanted_none rfl) (m_call hm173 16 (.tuple #[.agg (ws (a * b + c)), .agg (ws ((a * b + c) / MM))]) rfl (run_product rfl rfl rfl rfl) (product_any a b c ha hb hc _) (fun w174 hm175 => ?_))
              refine ⟨⟨hm175.at 0 rfl, hm175.at 1 rfl, hm175.at 2 rfl⟩, ?_⟩
              simp only [List.setIfInBounds_toArray, List.set_cons_zero, List.set_cons_succ]
              refine Sym.take_at 7 9 (.tuple #[.agg (ws (a * b + c)), .agg (ws ((a * b + c) / MM))]) rfl rfl (by kernel_rfl) (by kernel_rfl) (by kernel_rfl) (fun _ _ _ h => nomatch h.1) (wanted_none rfl) (fun _ hw => run_mv rfl rfl) (⟨hm175.at 0 rfl, hm175.at 1 rfl, hm175.at 2 rfl⟩) ?_
              simp only [List.setIfInBounds_toArray, List.set_cons_zero, List.set_cons_succ]
              refine Sym.take_at 8 17 (.agg (ws (a * b + c))) rfl rfl (by kernel_rfl) (by kernel_rfl) (by kernel_rfl) (fun _ _ _ h => nomatch h.1) (wanted_none rfl) (fun _ hw => run_ex rfl rfl rfl) (⟨hm175.at 0 rfl, hm175.at 1 rfl, hm175.at 2 rfl⟩) ?_
              simp only [List.setIfInBounds_toArray, List.set_cons_zero, List.set_cons_succ]
              refine Sym.take_at 9 18 (.agg (ws ((a * b + c) / MM))) rfl rfl (by kernel_rfl) (by kernel_rfl) (by kernel_rfl) (fun _ _ _ h => nomatch h.1) (wanted_none rfl) (fun _ hw => run_ex rfl rfl rfl) (⟨hm175.at 0 rfl, hm175.at 1 rfl, hm175.at 2 rfl⟩) ?_
              simp only [List.setIfInBounds_toArray, List.set_cons_zero, List.set_cons_succ]
              refine one_ready 12 (by kernel_rfl) ?_
              refine opd rfl (wanted_none rfl) (m_store 4 37 _ _ (ws (a * b + c)) (old := ws 0) hm175 rfl rfl rfl rfl rfl (by rw [ws_sz]; exact info_w) ((ws_sz _).trans (ws_sz _).symm) (ws_one _) (fun w176 (hm177 : Mm w w176 [(g2, bs a, 23), (g5, bs b, 23), (g8, bs c, 23), (g11, bs 0, 23), (g155, ws (a * b + c), 37), (g171, ws 0, 37)]) => ?_))
              refine ⟨⟨hm177.at 0 rfl, hm177.at 1 rfl, hm177.at 2 rfl⟩, ?_⟩
              refine one_ready 13 (by kernel_rfl) ?_
              refine opd rfl (wanted_none rfl) (m_store 5 37 _ _ (ws ((a * b + c) / MM)) (old := ws 0) hm177 rfl rfl rfl rfl rfl (by rw [ws_sz]; exact info_w) ((ws_sz _).trans (ws_sz _).symm) (ws_one _) (fun w178 (hm179 : Mm w w178 [(g2, bs a, 23), (g5, bs b, 23), (g8, bs c, 23), (g11, bs 0, 23), (g155, ws (a * b + c), 37), (g171, ws ((a * b + c) / MM), 37)]) => ?_))
              refine ⟨⟨hm179.at 0 rfl, hm179.at 1 rfl, hm179.at 2 rfl⟩, ?_⟩
              refine wpAnyH_done (by kernel_rfl) ?_ _
              exact ⟨rfl, g155, g171, rfl, hm179⟩
          · refine opd rfl (wanted_none rfl) (m_alloc (c := ws 0) (T := 37) hm159 8 rfl (al_W rfl) (fun g180 w181 (hm182 : Mm w w181 [(g2, bs a, 23), (g5, bs b, 23), (g8, bs c, 23), (g11, bs 0, 23), (g155, ws 0, 37), (g180, ws 0, 37)]) => ?_))
            refine ⟨⟨hm182.at 0 rfl, hm182.at 1 rfl, hm182.at 2 rfl⟩, ?_⟩
            simp only [List.setIfInBounds_toArray, List.set_cons_zero, List.set_cons_succ]
            refine one_ready 5 (by kernel_rfl) ?_
            refine opd rfl (wanted_none rfl) (m_call hm182 15 (.agg (ws c)) rfl (run_load rfl rfl) (load_any c _) (fun w183 hm184 => ?_))
            refine ⟨⟨hm184.at 0 rfl, hm184.at 1 rfl, hm184.at 2 rfl⟩, ?_⟩
            simp only [List.setIfInBounds_toArray, List.set_cons_zero, List.set_cons_succ]
            refine one_ready 6 (by kernel_rfl) ?_
            refine opd rfl (wanted_none rfl) (m_call hm184 16 (.tuple #[.agg (ws (a * b + c)), .agg (ws ((a * b + c) / MM))]) rfl (run_product rfl rfl rfl rfl) (product_any a b c ha hb hc _) (fun w185 hm186 => ?_))
            refine ⟨⟨hm186.at 0 rfl, hm186.at 1 rfl, hm186.at 2 rfl⟩, ?_⟩
            simp only [List.setIfInBounds_toArray, List.set_cons_zero, List.set_cons_succ]
            refine Sym.take_at 7 9 (.tuple #[.agg (ws (a * b + c)), .agg (ws ((a * b + c) / MM))]) rfl rfl (by kernel_rfl) (by kernel_rfl) (by kernel_rfl) (fun _ _ _ h => nomatch h.1) (wanted_none rfl) (fun _ hw => run_mv rfl rfl) (⟨hm186.at 0 rfl, hm186.at 1 rfl, hm186.at 2 rfl⟩) ?_
            simp only [List.setIfInBounds_toArray, List.set_cons_zero, List.set_cons_succ]
            refine Sym.take_at 8 17 (.agg (ws (a * b + c))) rfl rfl (by kernel_rfl) (by kernel_rfl) (by kernel_rfl) (fun _ _ _ h => nomatch h.1) (wanted_none rfl) (fun _ hw => run_ex rfl rfl rfl) (⟨hm186.at 0 rfl, hm186.at 1 rfl, hm186.at 2 rfl⟩) ?_
            simp only [List.setIfInBounds_toArray, List.set_cons_zero, List.set_cons_succ]
            refine Sym.take_at 9 18 (.agg (ws ((a * b + c) / MM))) rfl rfl (by kernel_rfl) (by kernel_rfl) (by kernel_rfl) (fun _ _ _ h => nomatch h.1) (wanted_none rfl) (fun _ hw => run_ex rfl rfl rfl) (⟨hm186.at 0 rfl, hm186.at 1 rfl, hm186.at 2 rfl⟩) ?_
            simp only [List.setIfInBounds_toArray, List.set_cons_zero, List.set_cons_succ]
            refine one_ready 12 (by kernel_rfl) ?_
            refine opd rfl (wanted_none rfl) (m_store 4 37 _ _ (ws (a * b + c)) (old := ws 0) hm186 rfl rfl rfl rfl rfl (by rw [ws_sz]; exact info_w) ((ws_sz _).trans (ws_sz _).symm) (ws_one _) (fun w187 (hm188 : Mm w w187 [(g2, bs a, 23), (g5, bs b, 23), (g8, bs c, 23), (g11, bs 0, 23), (g155, ws (a * b + c), 37), (g180, ws 0, 37)]) => ?_))
            refine ⟨⟨hm188.at 0 rfl, hm188.at 1 rfl, hm188.at 2 rfl⟩, ?_⟩
            refine one_ready 13 (by kernel_rfl) ?_
            refine opd rfl (wanted_none rfl) (m_store 5 37 _ _ (ws ((a * b + c) / MM)) (old := ws 0) hm188 rfl rfl rfl rfl rfl (by rw [ws_sz]; exact info_w) ((ws_sz _).trans (ws_sz _).symm) (ws_one _) (fun w189 (hm190 : Mm w w189 [(g2, bs a, 23), (g5, bs b, 23), (g8, bs c, 23), (g11, bs 0, 23), (g155, ws (a * b + c), 37), (g180, ws ((a * b + c) / MM), 37)]) => ?_))
            refine ⟨⟨hm190.at 0 rfl, hm190.at 1 rfl, hm190.at 2 rfl⟩, ?_⟩
            refine wpAnyH_done (by kernel_rfl) ?_ _
            exact ⟨rfl, g155, g180, rfl, hm190⟩
        · refine opd rfl (wanted_none rfl) (m_alloc (c := ws 0) (T := 37) hm157 8 rfl (al_W rfl) (fun g191 w192 (hm193 : Mm w w192 [(g2, bs a, 23), (g5, bs b, 23), (g8, bs c, 23), (g11, bs 0, 23), (g155, ws 0, 37), (g191, ws 0, 37)]) => ?_))
          refine ⟨⟨hm193.at 0 rfl, hm193.at 1 rfl, hm193.at 2 rfl⟩, ?_⟩
          simp only [List.setIfInBounds_toArray, List.set_cons_zero, List.set_cons_succ]
          refine one_ready 3 (by kernel_rfl) ?_
          refine opd rfl (wanted_none rfl) (m_call hm193 13 (.agg (ws b)) rfl (run_load rfl rfl) (load_any b _) (fun w194 hm195 => ?_))
          refine ⟨⟨hm195.at 0 rfl, hm195.at 1 rfl, hm195.at 2 rfl⟩, ?_⟩
          simp only [List.setIfInBounds_toArray, List.set_cons_zero, List.set_cons_succ]
          refine one_ready 5 (by kernel_rfl) ?_
          refine opd rfl (wanted_none rfl) (m_call hm195 15 (.agg (ws c)) rfl (run_load rfl rfl) (load_any c _) (fun w196 hm197 => ?_))
          refine ⟨⟨hm197.at 0 rfl, hm197.at 1 rfl, hm197.at 2 rfl⟩, ?_⟩
          simp only [List.setIfInBounds_toArray, List.set_cons_zero, List.set_cons_succ]
          refine one_ready 6 (by kernel_rfl) ?_
          refine opd rfl (wanted_none rfl) (m_call hm197 16 (.tuple #[.agg (ws (a * b + c)), .agg (ws ((a * b + c) / MM))]) rfl (run_product rfl rfl rfl rfl) (product_any a b c ha hb hc _) (fun w198 hm199 => ?_))
          refine ⟨⟨hm199.at 0 rfl, hm199.at 1 rfl, hm199.at 2 rfl⟩, ?_⟩
          simp only [List.setIfInBounds_toArray, List.set_cons_zero, List.set_cons_succ]
          refine Sym.take_at 7 9 (.tuple #[.agg (ws (a * b + c)), .agg (ws ((a * b + c) / MM))]) rfl rfl (by kernel_rfl) (by kernel_rfl) (by kernel_rfl) (fun _ _ _ h => nomatch h.1) (wanted_none rfl) (fun _ hw => run_mv rfl rfl) (⟨hm199.at 0 rfl, hm199.at 1 rfl, hm199.at 2 rfl⟩) ?_
          simp only [List.setIfInBounds_toArray, List.set_cons_zero, List.set_cons_succ]
          refine Sym.take_at 8 17 (.agg (ws (a * b + c))) rfl rfl (by kernel_rfl) (by kernel_rfl) (by kernel_rfl) (fun _ _ _ h => nomatch h.1) (wanted_none rfl) (fun _ hw => run_ex rfl rfl rfl) (⟨hm199.at 0 rfl, hm199.at 1 rfl, hm199.at 2 rfl⟩) ?_
          simp only [List.setIfInBounds_toArray, List.set_cons_zero, List.set_cons_succ]
          refine Sym.take_at 9 18 (.agg (ws ((a * b + c) / MM))) rfl rfl (by kernel_rfl) (by kernel_rfl) (by kernel_rfl) (fun _ _ _ h => nomatch h.1) (wanted_none rfl) (fun _ hw => run_ex rfl rfl rfl) (⟨hm199.at 0 rfl, hm199.at 1 rfl, hm199.at 2 rfl⟩) ?_
          simp only [List.setIfInBounds_toArray, List.set_cons_zero, List.set_cons_succ]
          refine one_ready 12 (by kernel_rfl) ?_
          refine opd rfl (wanted_none rfl) (m_store 4 37 _ _ (ws (a * b + c)) (old := ws 0) hm199 rfl rfl rfl rfl rfl (by rw [ws_sz]; exact info_w) ((ws_sz _).trans (ws_sz _).symm) (ws_one _) (fun w200 (hm201 : Mm w w200 [(g2, bs a, 23), (g5, bs b, 23), (g8, bs c, 23), (g11, bs 0, 23), (g155, ws (a * b + c), 37), (g191, ws 0, 37)]) => ?_))
          refine ⟨⟨hm201.at 0 rfl, hm201.at 1 rfl, hm201.at 2 rfl⟩, ?_⟩
          refine one_ready 13 (by kernel_rfl) ?_
          refine opd rfl (wanted_none rfl) (m_store 5 37 _ _ (ws ((a * b + c) / MM)) (old := ws 0) hm201 rfl rfl rfl rfl rfl (by rw [ws_sz]; exact info_w) ((ws_sz _).trans (ws_sz _).symm) (ws_one _) (fun w202 (hm203 : Mm w w202 [(g2, bs a, 23), (g5, bs b, 23), (g8, bs c, 23), (g11, bs 0, 23), (g155, ws (a * b + c), 37), (g191, ws ((a * b + c) / MM), 37)]) => ?_))
          refine ⟨⟨hm203.at 0 rfl, hm203.at 1 rfl, hm203.at 2 rfl⟩, ?_⟩
          refine wpAnyH_done (by kernel_rfl) ?_ _
          exact ⟨rfl, g155, g191, rfl, hm203⟩
      · refine opd rfl (wanted_none rfl) (m_alloc (c := ws 0) (T := 37) hm18 8 rfl (al_W rfl) (fun g204 w205 (hm206 : Mm w w205 [(g2, bs a, 23), (g5, bs b, 23), (g8, bs c, 23), (g11, bs 0, 23), (g204, ws 0, 37)]) => ?_))
        refine ⟨⟨hm206.at 0 rfl, hm206.at 1 rfl, hm206.at 2 rfl⟩, ?_⟩
        simp only [List.setIfInBounds_toArray, List.set_cons_zero, List.set_cons_succ]
        refine two_ready 3 10 (by kernel_rfl) ?_ ?_
        · refine opd rfl (wanted_none rfl) (m_call hm206 13 (.agg (ws b)) rfl (run_load rfl rfl) (load_any b _) (fun w207 hm208 => ?_))
          refine ⟨⟨hm208.at 0 rfl, hm208.at 1 rfl, hm208.at 2 rfl⟩, ?_⟩
          simp only [List.setIfInBounds_toArray, List.set_cons_zero, List.set_cons_succ]
          refine two_ready 5 10 (by kernel_rfl) ?_ ?_
          · refine opd rfl (wanted_none rfl) (m_call hm208 15 (.agg (ws c)) rfl (run_load rfl rfl) (load_any c _) (fun w209 hm210 => ?_))
            refine ⟨⟨hm210.at 0 rfl, hm210.at 1 rfl, hm210.at 2 rfl⟩, ?_⟩
            simp only [List.setIfInBounds_toArray, List.set_cons_zero, List.set_cons_succ]
            refine two_ready 6 10 (by kernel_rfl) ?_ ?_
            · refine opd rfl (wanted_none rfl) (m_call hm210 16 (.tuple #[.agg (ws (a * b + c)), .agg (ws ((a * b + c) / MM))]) rfl (run_product rfl rfl rfl rfl) (product_any a b c ha hb hc _) (fun w211 hm212 => ?_))
              refine ⟨⟨hm212.at 0 rfl, hm212.at 1 rfl, hm212.at 2 rfl⟩, ?_⟩
              simp only [List.setIfInBounds_toArray, List.set_cons_zero, List.set_cons_succ]
              refine Sym.take_at 7 9 (.tuple #[.agg (ws (a * b + c)), .agg (ws ((a * b + c) / MM))]) rfl rfl (by kernel_rfl) (by kernel_rfl) (by kernel_rfl) (fun _ _ _ h => nomatch h.1) (wanted_none rfl) (fun _ hw => run_mv rfl rfl) (⟨hm212.at 0 rfl, hm212.at 1 rfl, hm212.at 2 rfl⟩) ?_
              simp only [List.setIfInBounds_toArray, List.set_cons_zero, List.set_cons_succ]
              refine Sym.take_at 8 17 (.agg (ws (a * b + c))) rfl rfl (by kernel_rfl) (by kernel_rfl) (by kernel_rfl) (fun _ _ _ h => nomatch h.1) (wanted_none rfl) (fun _ hw => run_ex rfl rfl rfl) (⟨hm212.at 0 rfl, hm212.at 1 rfl, hm212.at 2 rfl⟩) ?_
              simp only [List.setIfInBounds_toArray, List.set_cons_zero, List.set_cons_succ]
              refine Sym.take_at 9 18 (.agg (ws ((a * b + c) / MM))) rfl rfl (by kernel_rfl) (by kernel_rfl) (by kernel_rfl) (fun _ _ _ h => nomatch h.1) (wanted_none rfl) (fun _ hw => run_ex rfl rfl rfl) (⟨hm212.at 0 rfl, hm212.at 1 rfl, hm212.at 2 rfl⟩) ?_
              simp only [List.setIfInBounds_toArray, List.set_cons_zero, List.set_cons_succ]
              refine one_ready 10 (by kernel_rfl) ?_
              refine opd rfl (wanted_none rfl) (m_alloc (c := ws 0) (T := 37) hm212 7 rfl (al_W rfl) (fun g213 w214 (hm215 : Mm w w214 [(g2, bs a, 23), (g5, bs b, 23), (g8, bs c, 23), (g11, bs 0, 23), (g204, ws 0, 37), (g213, ws 0, 37)]) => ?_))
              refine ⟨⟨hm215.at 0 rfl, hm215.at 1 rfl, hm215.at 2 rfl⟩, ?_⟩
              simp only [List.setIfInBounds_toArray, List.set_cons_zero, List.set_cons_succ]
              refine one_ready 12 (by kernel_rfl) ?_
              refine opd rfl (wanted_none rfl) (m_store 5 37 _ _ (ws (a * b + c)) (old := ws 0) hm215 rfl rfl rfl rfl rfl (by rw [ws_sz]; exact info_w) ((ws_sz _).trans (ws_sz _).symm) (ws_one _) (fun w216 (hm217 : Mm w w216 [(g2, bs a, 23), (g5, bs b, 23), (g8, bs c, 23), (g11, bs 0, 23), (g204, ws 0, 37), (g213, ws (a * b + c), 37)]) => ?_))
              refine ⟨⟨hm217.at 0 rfl, hm217.at 1 rfl, hm217.at 2 rfl⟩, ?_⟩
              refine one_ready 13 (by kernel_rfl) ?_
              refine opd rfl (wanted_none rfl) (m_store 4 37 _ _ (ws ((a * b + c) / MM)) (old := ws 0) hm217 rfl rfl rfl rfl rfl (by rw [ws_sz]; exact info_w) ((ws_sz _).trans (ws_sz _).symm) (ws_one _) (fun w218 (hm219 : Mm w w218 [(g2, bs a, 23), (g5, bs b, 23), (g8, bs c, 23), (g11, bs 0, 23), (g204, ws ((a * b + c) / MM), 37), (g213, ws (a * b + c), 37)]) => ?_))
              refine ⟨⟨hm219.at 0 rfl, hm219.at 1 rfl, hm219.at 2 rfl⟩, ?_⟩
              refine wpAnyH_done (by kernel_rfl) ?_ _
              exact ⟨rfl, g213, g204, rfl, (Mm.reorder hm219 [0, 1, 2, 3, 5, 4] (by decide) rfl)⟩
            · refine opd rfl (wanted_none rfl) (m_alloc (c := ws 0) (T := 37) hm210 7 rfl (al_W rfl) (fun g220 w221 (hm222 : Mm w w221 [(g2, bs a, 23), (g5, bs b, 23), (g8, bs c, 23), (g11, bs 0, 23), (g204, ws 0, 37), (g220, ws 0, 37)]) => ?_))
              refine ⟨⟨hm222.at 0 rfl, hm222.at 1 rfl, hm222.at 2 rfl⟩, ?_⟩
              simp only [List.setIfInBounds_toArray, List.set_cons_zero, List.set_cons_succ]
              refine one_ready 6 (by kernel_rfl) ?_
              refine opd rfl (wanted_none rfl) (m_call hm222 16 (.tuple #[.agg (ws (a * b + c)), .agg (ws ((a * b + c) / MM))]) rfl (run_product rfl rfl rfl rfl) (product_any a b c ha hb hc _) (fun w223 hm224 => ?_))
              refine ⟨⟨hm224.at 0 rfl, hm224.at 1 rfl, hm224.at 2 rfl⟩, ?_⟩
              simp only [List.setIfInBounds_toArray, List.set_cons_zero, List.set_cons_succ]
              refine Sym.take_at 7 9 (.tuple #[.agg (ws (a * b + c)), .agg (ws ((a * b + c) / MM))]) rfl rfl (by kernel_rfl) (by kernel_rfl) (by kernel_rfl) (fun _ _ _ h => nomatch h.1) (wanted_none rfl) (fun _ hw => run_mv rfl rfl) (⟨hm224.at 0 rfl, hm224.at 1 rfl, hm224.at 2 rfl⟩) ?_
              simp only [List.setIfInBounds_toArray, List.set_cons_zero, List.set_cons_succ]
              refine Sym.take_at 8 17 (.agg (ws (a * b + c))) rfl rfl (by kernel_rfl) (by kernel_rfl) (by kernel_rfl) (fun _ _ _ h => nomatch h.1) (wanted_none rfl) (fun _ hw => run_ex rfl rfl rfl) (⟨hm224.at 0 rfl, hm224.at 1 rfl, hm224.at 2 rfl⟩) ?_
              simp only [List.setIfInBounds_toArray, List.set_cons_zero, List.set_cons_succ]
              refine Sym.take_at 9 18 (.agg (ws ((a * b + c) / MM))) rfl rfl (by kernel_rfl) (by kernel_rfl) (by kernel_rfl) (fun _ _ _ h => nomatch h.1) (wanted_none rfl) (fun _ hw => run_ex rfl rfl rfl) (⟨hm224.at 0 rfl, hm224.at 1 rfl, hm224.at 2 rfl⟩) ?_
              simp only [List.setIfInBounds_toArray, List.set_cons_zero, List.set_cons_succ]
              refine one_ready 12 (by kernel_rfl) ?_
              refine opd rfl (wanted_none rfl) (m_store 5 37 _ _ (ws (a * b + c)) (old := ws 0) hm224 rfl rfl rfl rfl rfl (by rw [ws_sz]; exact info_w) ((ws_sz _).trans (ws_sz _).symm) (ws_one _) (fun w225 (hm226 : Mm w w225 [(g2, bs a, 23), (g5, bs b, 23), (g8, bs c, 23), (g11, bs 0, 23), (g204, ws 0, 37), (g220, ws (a * b + c), 37)]) => ?_))
              refine ⟨⟨hm226.at 0 rfl, hm226.at 1 rfl, hm226.at 2 rfl⟩, ?_⟩
              refine one_ready 13 (by kernel_rfl) ?_
              refine opd rfl (wanted_none rfl) (m_store 4 37 _ _ (ws ((a * b + c) / MM)) (old := ws 0) hm226 rfl rfl rfl rfl rfl (by rw [ws_sz]; exact info_w) ((ws_sz _).trans (ws_sz _).symm) (ws_one _) (fun w227 (hm228 : Mm w w227 [(g2, bs a, 23), (g5, bs b, 23), (g8, bs c, 23), (g11, bs 0, 23), (g204, ws ((a * b + c) / MM), 37), (g220, ws (a * b + c), 37)]) => ?_))
              refine ⟨⟨hm228.at 0 rfl, hm228.at 1 rfl, hm228.at 2 rfl⟩, ?_⟩
              refine wpAnyH_done (by kernel_rfl) ?_ _
              exact ⟨rfl, g220, g204, rfl, (Mm.reorder hm228 [0, 1, 2, 3, 5, 4] (by decide) rfl)⟩
          · refine opd rfl (wanted_none rfl) (m_alloc (c := ws 0) (T := 37) hm208 7 rfl (al_W rfl) (fun g229 w230 (hm231 : Mm w w230 [(g2, bs a, 23), (g5, bs b, 23), (g8, bs c, 23), (g11, bs 0, 23), (g204, ws 0, 37), (g229, ws 0, 37)]) => ?_))
            refine ⟨⟨hm231.at 0 rfl, hm231.at 1 rfl, hm231.at 2 rfl⟩, ?_⟩
            simp only [List.setIfInBounds_toArray, List.set_cons_zero, List.set_cons_succ]
            refine one_ready 5 (by kernel_rfl) ?_
            refine opd rfl (wanted_none rfl) (m_call hm231 15 (.agg (ws c)) rfl (run_load rfl rfl) (load_any c _) (fun w232 hm233 => ?_))
            refine ⟨⟨hm233.at 0 rfl, hm233.at 1 rfl, hm233.at 2 rfl⟩, ?_⟩
            simp only [List.setIfInBounds_toArray, List.set_cons_zero, List.set_cons_succ]
            refine one_ready 6 (by kernel_rfl) ?_
            refine opd rfl (wanted_none rfl) (m_call hm233 16 (.tuple #[.agg (ws (a * b + c)), .agg (ws ((a * b + c) / MM))]) rfl (run_product rfl rfl rfl rfl) (product_any a b c ha hb hc _) (fun w234 hm235 => ?_))
            refine ⟨⟨hm235.at 0 rfl, hm235.at 1 rfl, hm235.at 2 rfl⟩, ?_⟩
            simp only [List.setIfInBounds_toArray, List.set_cons_zero, List.set_cons_succ]
            refine Sym.take_at 7 9 (.tuple #[.agg (ws (a * b + c)), .agg (ws ((a * b + c) / MM))]) rfl rfl (by kernel_rfl) (by kernel_rfl) (by kernel_rfl) (fun _ _ _ h => nomatch h.1) (wanted_none rfl) (fun _ hw => run_mv rfl rfl) (⟨hm235.at 0 rfl, hm235.at 1 rfl, hm235.at 2 rfl⟩) ?_
            simp only [List.setIfInBounds_toArray, List.set_cons_zero, List.set_cons_succ]
            refine Sym.take_at 8 17 (.agg (ws (a * b + c))) rfl rfl (by kernel_rfl) (by kernel_rfl) (by kernel_rfl) (fun _ _ _ h => nomatch h.1) (wanted_none rfl) (fun _ hw => run_ex rfl rfl rfl) (⟨hm235.at 0 rfl, hm235.at 1 rfl, hm235.at 2 rfl⟩) ?_
            simp only [List.setIfInBounds_toArray, List.set_cons_zero, List.set_cons_succ]
            refine Sym.take_at 9 18 (.agg (ws ((a * b + c) / MM))) rfl rfl (by kernel_rfl) (by kernel_rfl) (by kernel_rfl) (fun _ _ _ h => nomatch h.1) (wanted_none rfl) (fun _ hw => run_ex rfl rfl rfl) (⟨hm235.at 0 rfl, hm235.at 1 rfl, hm235.at 2 rfl⟩) ?_
            simp only [List.setIfInBounds_toArray, List.set_cons_zero, List.set_cons_succ]
            refine one_ready 12 (by kernel_rfl) ?_
            refine opd rfl (wanted_none rfl) (m_store 5 37 _ _ (ws (a * b + c)) (old := ws 0) hm235 rfl rfl rfl rfl rfl (by rw [ws_sz]; exact info_w) ((ws_sz _).trans (ws_sz _).symm) (ws_one _) (fun w236 (hm237 : Mm w w236 [(g2, bs a, 23), (g5, bs b, 23), (g8, bs c, 23), (g11, bs 0, 23), (g204, ws 0, 37), (g229, ws (a * b + c), 37)]) => ?_))
            refine ⟨⟨hm237.at 0 rfl, hm237.at 1 rfl, hm237.at 2 rfl⟩, ?_⟩
            refine one_ready 13 (by kernel_rfl) ?_
            refine opd rfl (wanted_none rfl) (m_store 4 37 _ _ (ws ((a * b + c) / MM)) (old := ws 0) hm237 rfl rfl rfl rfl rfl (by rw [ws_sz]; exact info_w) ((ws_sz _).trans (ws_sz _).symm) (ws_one _) (fun w238 (hm239 : Mm w w238 [(g2, bs a, 23), (g5, bs b, 23), (g8, bs c, 23), (g11, bs 0, 23), (g204, ws ((a * b + c) / MM), 37), (g229, ws (a * b + c), 37)]) => ?_))
            refine ⟨⟨hm239.at 0 rfl, hm239.at 1 rfl, hm239.at 2 rfl⟩, ?_⟩
            refine wpAnyH_done (by kernel_rfl) ?_ _
            exact ⟨rfl, g229, g204, rfl, (Mm.reorder hm239 [0, 1, 2, 3, 5, 4] (by decide) rfl)⟩
        · refine opd rfl (wanted_none rfl) (m_alloc (c := ws 0) (T := 37) hm206 7 rfl (al_W rfl) (fun g240 w241 (hm242 : Mm w w241 [(g2, bs a, 23), (g5, bs b, 23), (g8, bs c, 23), (g11, bs 0, 23), (g204, ws 0, 37), (g240, ws 0, 37)]) => ?_))
          refine ⟨⟨hm242.at 0 rfl, hm242.at 1 rfl, hm242.at 2 rfl⟩, ?_⟩
          simp only [List.setIfInBounds_toArray, List.set_cons_zero, List.set_cons_succ]
          refine one_ready 3 (by kernel_rfl) ?_
          refine opd rfl (wanted_none rfl) (m_call hm242 13 (.agg (ws b)) rfl (run_load rfl rfl) (load_any b _) (fun w243 hm244 => ?_))
          refine ⟨⟨hm244.at 0 rfl, hm244.at 1 rfl, hm244.at 2 rfl⟩, ?_⟩
          simp only [List.setIfInBounds_toArray, List.set_cons_zero, List.set_cons_succ]
          refine one_ready 5 (by kernel_rfl) ?_
          refine opd rfl (wanted_none rfl) (m_call hm244 15 (.agg (ws c)) rfl (run_load rfl rfl) (load_any c _) (fun w245 hm246 => ?_))
          refine ⟨⟨hm246.at 0 rfl, hm246.at 1 rfl, hm246.at 2 rfl⟩, ?_⟩
          simp only [List.setIfInBounds_toArray, List.set_cons_zero, List.set_cons_succ]
          refine one_ready 6 (by kernel_rfl) ?_
          refine opd rfl (wanted_none rfl) (m_call hm246 16 (.tuple #[.agg (ws (a * b + c)), .agg (ws ((a * b + c) / MM))]) rfl (run_product rfl rfl rfl rfl) (product_any a b c ha hb hc _) (fun w247 hm248 => ?_))
          refine ⟨⟨hm248.at 0 rfl, hm248.at 1 rfl, hm248.at 2 rfl⟩, ?_⟩
          simp only [List.setIfInBounds_toArray, List.set_cons_zero, List.set_cons_succ]
          refine Sym.take_at 7 9 (.tuple #[.agg (ws (a * b + c)), .agg (ws ((a * b + c) / MM))]) rfl rfl (by kernel_rfl) (by kernel_rfl) (by kernel_rfl) (fun _ _ _ h => nomatch h.1) (wanted_none rfl) (fun _ hw => run_mv rfl rfl) (⟨hm248.at 0 rfl, hm248.at 1 rfl, hm248.at 2 rfl⟩) ?_
          simp only [List.setIfInBounds_toArray, List.set_cons_zero, List.set_cons_succ]
          refine Sym.take_at 8 17 (.agg (ws (a * b + c))) rfl rfl (by kernel_rfl) (by kernel_rfl) (by kernel_rfl) (fun _ _ _ h => nomatch h.1) (wanted_none rfl) (fun _ hw => run_ex rfl rfl rfl) (⟨hm248.at 0 rfl, hm248.at 1 rfl, hm248.at 2 rfl⟩) ?_
          simp only [List.setIfInBounds_toArray, List.set_cons_zero, List.set_cons_succ]
          refine Sym.take_at 9 18 (.agg (ws ((a * b + c) / MM))) rfl rfl (by kernel_rfl) (by kernel_rfl) (by kernel_rfl) (fun _ _ _ h => nomatch h.1) (wanted_none rfl) (fun _ hw => run_ex rfl rfl rfl) (⟨hm248.at 0 rfl, hm248.at 1 rfl, hm248.at 2 rfl⟩) ?_
          simp only [List.setIfInBounds_toArray, List.set_cons_zero, List.set_cons_succ]
          refine one_ready 12 (by kernel_rfl) ?_
          refine opd rfl (wanted_none rfl) (m_store 5 37 _ _ (ws (a * b + c)) (old := ws 0) hm248 rfl rfl rfl rfl rfl (by rw [ws_sz]; exact info_w) ((ws_sz _).trans (ws_sz _).symm) (ws_one _) (fun w249 (hm250 : Mm w w249 [(g2, bs a, 23), (g5, bs b, 23), (g8, bs c, 23), (g11, bs 0, 23), (g204, ws 0, 37), (g240, ws (a * b + c), 37)]) => ?_))
          refine ⟨⟨hm250.at 0 rfl, hm250.at 1 rfl, hm250.at 2 rfl⟩, ?_⟩
          refine one_ready 13 (by kernel_rfl) ?_
          refine opd rfl (wanted_none rfl) (m_store 4 37 _ _ (ws ((a * b + c) / MM)) (old := ws 0) hm250 rfl rfl rfl rfl rfl (by rw [ws_sz]; exact info_w) ((ws_sz _).trans (ws_sz _).symm) (ws_one _) (fun w251 (hm252 : Mm w w251 [(g2, bs a, 23), (g5, bs b, 23), (g8, bs c, 23), (g11, bs 0, 23), (g204, ws ((a * b + c) / MM), 37), (g240, ws (a * b + c), 37)]) => ?_))
          refine ⟨⟨hm252.at 0 rfl, hm252.at 1 rfl, hm252.at 2 rfl⟩, ?_⟩
          refine wpAnyH_done (by kernel_rfl) ?_ _
          exact ⟨rfl, g240, g204, rfl, (Mm.reorder hm252 [0, 1, 2, 3, 5, 4] (by decide) rfl)⟩
    · refine opd rfl (wanted_none rfl) (m_alloc (c := ws 0) (T := 37) hm15 7 rfl (al_W rfl) (fun g253 w254 (hm255 : Mm w w254 [(g2, bs a, 23), (g5, bs b, 23), (g8, bs c, 23), (g11, bs 0, 23), (g253, ws 0, 37)]) => ?_))
      refine ⟨⟨hm255.at 0 rfl, hm255.at 1 rfl, hm255.at 2 rfl⟩, ?_⟩
      simp only [List.setIfInBounds_toArray, List.set_cons_zero, List.set_cons_succ]
      refine two_ready 1 11 (by kernel_rfl) ?_ ?_
      · refine opd rfl (wanted_none rfl) (m_call hm255 11 (.agg (ws a)) rfl (run_load rfl rfl) (load_any a _) (fun w256 hm257 => ?_))
        refine ⟨⟨hm257.at 0 rfl, hm257.at 1 rfl, hm257.at 2 rfl⟩, ?_⟩
        simp only [List.setIfInBounds_toArray, List.set_cons_zero, List.set_cons_succ]
        refine two_ready 3 11 (by kernel_rfl) ?_ ?_
        · refine opd rfl (wanted_none rfl) (m_call hm257 13 (.agg (ws b)) rfl (run_load rfl rfl) (load_any b _) (fun w258 hm259 => ?_))
          refine ⟨⟨hm259.at 0 rfl, hm259.at 1 rfl, hm259.at 2 rfl⟩, ?_⟩
          simp only [List.setIfInBounds_toArray, List.set_cons_zero, List.set_cons_succ]
          refine two_ready 5 11 (by kernel_rfl) ?_ ?_
          · refine opd rfl (wanted_none rfl) (m_call hm259 15 (.agg (ws c)) rfl (run_load rfl rfl) (load_any c _) (fun w260 hm261 => ?_))
            refine ⟨⟨hm261.at 0 rfl, hm261.at 1 rfl, hm261.at 2 rfl⟩, ?_⟩
            simp only [List.setIfInBounds_toArray, List.set_cons_zero, List.set_cons_succ]
            refine two_ready 6 11 (by kernel_rfl) ?_ ?_
            · refine opd rfl (wanted_none rfl) (m_call hm261 16 (.tuple #[.agg (ws (a * b + c)), .agg (ws ((a * b + c) / MM))]) rfl (run_product rfl rfl rfl rfl) (product_any a b c ha hb hc _) (fun w262 hm263 => ?_))
              refine ⟨⟨hm263.at 0 rfl, hm263.at 1 rfl, hm263.at 2 rfl⟩, ?_⟩
              simp only [List.setIfInBounds_toArray, List.set_cons_zero, List.set_cons_succ]
              refine Sym.take_at 7 9 (.tuple #[.agg (ws (a * b + c)), .agg (ws ((a * b + c) / MM))]) rfl rfl (by kernel_rfl) (by kernel_rfl) (by kernel_rfl) (fun _ _ _ h => nomatch h.1) (wanted_none rfl) (fun _ hw => run_mv rfl rfl) (⟨hm263.at 0 rfl, hm263.at 1 rfl, hm263.at 2 rfl⟩) ?_
              simp only [List.setIfInBounds_toArray, List.set_cons_zero, List.set_cons_succ]
              refine Sym.take_at 8 17 (.agg (ws (a * b + c))) rfl rfl (by kernel_rfl) (by kernel_rfl) (by kernel_rfl) (fun _ _ _ h => nomatch h.1) (wanted_none rfl) (fun _ hw => run_ex rfl rfl rfl) (⟨hm263.at 0 rfl, hm263.at 1 rfl, hm263.at 2 rfl⟩) ?_
              simp only [List.setIfInBounds_toArray, List.set_cons_zero, List.set_cons_succ]
              refine Sym.take_at 9 18 (.agg (ws ((a * b + c) / MM))) rfl rfl (by kernel_rfl) (by kernel_rfl) (by kernel_rfl) (fun _ _ _ h => nomatch h.1) (wanted_none rfl) (fun _ hw => run_ex rfl rfl rfl) (⟨hm263.at 0 rfl, hm263.at 1 rfl, hm263.at 2 rfl⟩) ?_
              simp only [List.setIfInBounds_toArray, List.set_cons_zero, List.set_cons_succ]
              refine one_ready 11 (by kernel_rfl) ?_
              refine opd rfl (wanted_none rfl) (m_alloc (c := ws 0) (T := 37) hm263 8 rfl (al_W rfl) (fun g264 w265 (hm266 : Mm w w265 [(g2, bs a, 23), (g5, bs b, 23), (g8, bs c, 23), (g11, bs 0, 23), (g253, ws 0, 37), (g264, ws 0, 37)]) => ?_))
              refine ⟨⟨hm266.at 0 rfl, hm266.at 1 rfl, hm266.at 2 rfl⟩, ?_⟩
              simp only [List.setIfInBounds_toArray, List.set_cons_zero, List.set_cons_succ]
              refine one_ready 12 (by kernel_rfl) ?_
              refine opd rfl (wanted_none rfl) (m_store 4 37 _ _ (ws (a * b + c)) (old := ws 0) hm266 rfl rfl rfl rfl rfl (by rw [ws_sz]; exact info_w) ((ws_sz _).trans (ws_sz _).symm) (ws_one _) (fun w267 (hm268 : Mm w w267 [(g2, bs a, 23), (g5, bs b, 23), (g8, bs c, 23), (g11, bs 0, 23), (g253, ws (a * b + c), 37), (g264, ws 0, 37)]) => ?_))
              refine ⟨⟨hm268.at 0 rfl, hm268.at 1 rfl, hm268.at 2 rfl⟩, ?_⟩
              refine one_ready 13 (by kernel_rfl) ?_
              refine opd rfl (wanted_none rfl) (m_store 5 37 _ _ (ws ((a * b + c) / MM)) (old := ws 0) hm268 rfl rfl rfl rfl rfl (by rw [ws_sz]; exact info_w) ((ws_sz _).trans (ws_sz _).symm) (ws_one _) (fun w269 (hm270 : Mm w w269 [(g2, bs a, 23), (g5, bs b, 23), (g8, bs c, 23), (g11, bs 0, 23), (g253, ws (a * b + c), 37), (g264, ws ((a * b + c) / MM), 37)]) => ?_))
              refine ⟨⟨hm270.at 0 rfl, hm270.at 1 rfl, hm270.at 2 rfl⟩, ?_⟩
              refine wpAnyH_done (by kernel_rfl) ?_ _
              exact ⟨rfl, g253, g264, rfl, hm270⟩
            · refine opd rfl (wanted_none rfl) (m_alloc (c := ws 0) (T := 37) hm261 8 rfl (al_W rfl) (fun g271 w272 (hm273 : Mm w w272 [(g2, bs a, 23), (g5, bs b, 23), (g8, bs c, 23), (g11, bs 0, 23), (g253, ws 0, 37), (g271, ws 0, 37)]) => ?_))
              refine ⟨⟨hm273.at 0 rfl, hm273.at 1 rfl, hm273.at 2 rfl⟩, ?_⟩
              simp only [List.setIfInBounds_toArray, List.set_cons_zero, List.set_cons_succ]
              refine one_ready 6 (by kernel_rfl) ?_
              refine opd rfl (wanted_none rfl) (m_call hm273 16 (.tuple #[.agg (ws (a * b + c)), .agg (ws ((a * b + c) / MM))]) rfl (run_product rfl rfl rfl rfl) (product_any a b c ha hb hc _) (fun w274 hm275 => ?_))
              refine ⟨⟨hm275.at 0 rfl, hm275.at 1 rfl, hm275.at 2 rfl⟩, ?_⟩
              simp only [List.setIfInBounds_toArray, List.set_cons_zero, List.set_cons_succ]
              refine Sym.take_at 7 9 (.tuple #[.agg (ws (a * b + c)), .agg (ws ((a * b + c) / MM))]) rfl rfl (by kernel_rfl) (by kernel_rfl) (by kernel_rfl) (fun _ _ _ h => nomatch h.1) (wanted_none rfl) (fun _ hw => run_mv rfl rfl) (⟨hm275.at 0 rfl, hm275.at 1 rfl, hm275.at 2 rfl⟩) ?_
              simp only [List.setIfInBounds_toArray, List.set_cons_zero, List.set_cons_succ]
              refine Sym.take_at 8 17 (.agg (ws (a * b + c))) rfl rfl (by kernel_rfl) (by kernel_rfl) (by kernel_rfl) (fun _ _ _ h => nomatch h.1) (wanted_none rfl) (fun _ hw => run_ex rfl rfl rfl) (⟨hm275.at 0 rfl, hm275.at 1 rfl, hm275.at 2 rfl⟩) ?_
              simp only [List.setIfInBounds_toArray, List.set_cons_zero, List.set_cons_succ]
              refine Sym.take_at 9 18 (.agg (ws ((a * b + c) / MM))) rfl rfl (by kernel_rfl) (by kernel_rfl) (by kernel_rfl) (fun _ _ _ h => nomatch h.1) (wanted_none rfl) (fun _ hw => run_ex rfl rfl rfl) (⟨hm275.at 0 rfl, hm275.at 1 rfl, hm275.at 2 rfl⟩) ?_
              simp only [List.setIfInBounds_toArray, List.set_cons_zero, List.set_cons_succ]
              refine one_ready 12 (by kernel_rfl) ?_
              refine opd rfl (wanted_none rfl) (m_store 4 37 _ _ (ws (a * b + c)) (old := ws 0) hm275 rfl rfl rfl rfl rfl (by rw [ws_sz]; exact info_w) ((ws_sz _).trans (ws_sz _).symm) (ws_one _) (fun w276 (hm277 : Mm w w276 [(g2, bs a, 23), (g5, bs b, 23), (g8, bs c, 23), (g11, bs 0, 23), (g253, ws (a * b + c), 37), (g271, ws 0, 37)]) => ?_))
              refine ⟨⟨hm277.at 0 rfl, hm277.at 1 rfl, hm277.at 2 rfl⟩, ?_⟩
              refine one_ready 13 (by kernel_rfl) ?_
              refine opd rfl (wanted_none rfl) (m_store 5 37 _ _ (ws ((a * b + c) / MM)) (old := ws 0) hm277 rfl rfl rfl rfl rfl (by rw [ws_sz]; exact info_w) ((ws_sz _).trans (ws_sz _).symm) (ws_one _) (fun w278 (hm279 : Mm w w278 [(g2, bs a, 23), (g5, bs b, 23), (g8, bs c, 23), (g11, bs 0, 23), (g253, ws (a * b + c), 37), (g271, ws ((a * b + c) / MM), 37)]) => ?_))
              refine ⟨⟨hm279.at 0 rfl, hm279.at 1 rfl, hm279.at 2 rfl⟩, ?_⟩
              refine wpAnyH_done (by kernel_rfl) ?_ _
              exact ⟨rfl, g253, g271, rfl, hm279⟩
          · refine opd rfl (wanted_none rfl) (m_alloc (c := ws 0) (T := 37) hm259 8 rfl (al_W rfl) (fun g280 w281 (hm282 : Mm w w281 [(g2, bs a, 23), (g5, bs b, 23), (g8, bs c, 23), (g11, bs 0, 23), (g253, ws 0, 37), (g280, ws 0, 37)]) => ?_))
            refine ⟨⟨hm282.at 0 rfl, hm282.at 1 rfl, hm282.at 2 rfl⟩, ?_⟩
            simp only [List.setIfInBounds_toArray, List.set_cons_zero, List.set_cons_succ]
            refine one_ready 5 (by kernel_rfl) ?_
            refine opd rfl (wanted_none rfl) (m_call hm282 15 (.agg (ws c)) rfl (run_load rfl rfl) (load_any c _) (fun w283 hm284 => ?_))
            refine ⟨⟨hm284.at 0 rfl, hm284.at 1 rfl, hm284.at 2 rfl⟩, ?_⟩
            simp only [List.setIfInBounds_toArray, List.set_cons_zero, List.set_cons_succ]
            refine one_ready 6 (by kernel_rfl) ?_
            refine opd rfl (wanted_none rfl) (m_call hm284 16 (.tuple #[.agg (ws (a * b + c)), .agg (ws ((a * b + c) / MM))]) rfl (run_product rfl rfl rfl rfl) (product_any a b c ha hb hc _) (fun w285 hm286 => ?_))
            refine ⟨⟨hm286.at 0 rfl, hm286.at 1 rfl, hm286.at 2 rfl⟩, ?_⟩
            simp only [List.setIfInBounds_toArray, List.set_cons_zero, List.set_cons_succ]
            refine Sym.take_at 7 9 (.tuple #[.agg (ws (a * b + c)), .agg (ws ((a * b + c) / MM))]) rfl rfl (by kernel_rfl) (by kernel_rfl) (by kernel_rfl) (fun _ _ _ h => nomatch h.1) (wanted_none rfl) (fun _ hw => run_mv rfl rfl) (⟨hm286.at 0 rfl, hm286.at 1 rfl, hm286.at 2 rfl⟩) ?_
            simp only [List.setIfInBounds_toArray, List.set_cons_zero, List.set_cons_succ]
            refine Sym.take_at 8 17 (.agg (ws (a * b + c))) rfl rfl (by kernel_rfl) (by kernel_rfl) (by kernel_rfl) (fun _ _ _ h => nomatch h.1) (wanted_none rfl) (fun _ hw => run_ex rfl rfl rfl) (⟨hm286.at 0 rfl, hm286.at 1 rfl, hm286.at 2 rfl⟩) ?_
            simp only [List.setIfInBounds_toArray, List.set_cons_zero, List.set_cons_succ]
            refine Sym.take_at 9 18 (.agg (ws ((a * b + c) / MM))) rfl rfl (by kernel_rfl) (by kernel_rfl) (by kernel_rfl) (fun _ _ _ h => nomatch h.1) (wanted_none rfl) (fun _ hw => run_ex rfl rfl rfl) (⟨hm286.at 0 rfl, hm286.at 1 rfl, hm286.at 2 rfl⟩) ?_
            simp only [List.setIfInBounds_toArray, List.set_cons_zero, List.set_cons_succ]
            refine one_ready 12 (by kernel_rfl) ?_
            refine opd rfl (wanted_none rfl) (m_store 4 37 _ _ (ws (a * b + c)) (old := ws 0) hm286 rfl rfl rfl rfl rfl (by rw [ws_sz]; exact info_w) ((ws_sz _).trans (ws_sz _).symm) (ws_one _) (fun w287 (hm288 : Mm w w287 [(g2, bs a, 23), (g5, bs b, 23), (g8, bs c, 23), (g11, bs 0, 23), (g253, ws (a * b + c), 37), (g280, ws 0, 37)]) => ?_))
            refine ⟨⟨hm288.at 0 rfl, hm288.at 1 rfl, hm288.at 2 rfl⟩, ?_⟩
            refine one_ready 13 (by kernel_rfl) ?_
            refine opd rfl (wanted_none rfl) (m_store 5 37 _ _ (ws ((a * b + c) / MM)) (old := ws 0) hm288 rfl rfl rfl rfl rfl (by rw [ws_sz]; exact info_w) ((ws_sz _).trans (ws_sz _).symm) (ws_one _) (fun w289 (hm290 : Mm w w289 [(g2, bs a, 23), (g5, bs b, 23), (g8, bs c, 23), (g11, bs 0, 23), (g253, ws (a * b + c), 37), (g280, ws ((a * b + c) / MM), 37)]) => ?_))
            refine ⟨⟨hm290.at 0 rfl, hm290.at 1 rfl, hm290.at 2 rfl⟩, ?_⟩
            refine wpAnyH_done (by kernel_rfl) ?_ _
            exact ⟨rfl, g253, g280, rfl, hm290⟩
        · refine opd rfl (wanted_none rfl) (m_alloc (c := ws 0) (T := 37) hm257 8 rfl (al_W rfl) (fun g291 w292 (hm293 : Mm w w292 [(g2, bs a, 23), (g5, bs b, 23), (g8, bs c, 23), (g11, bs 0, 23), (g253, ws 0, 37), (g291, ws 0, 37)]) => ?_))
          refine ⟨⟨hm293.at 0 rfl, hm293.at 1 rfl, hm293.at 2 rfl⟩, ?_⟩
          simp only [List.setIfInBounds_toArray, List.set_cons_zero, List.set_cons_succ]
          refine one_ready 3 (by kernel_rfl) ?_
          refine opd rfl (wanted_none rfl) (m_call hm293 13 (.agg (ws b)) rfl (run_load rfl rfl) (load_any b _) (fun w294 hm295 => ?_))
          refine ⟨⟨hm295.at 0 rfl, hm295.at 1 rfl, hm295.at 2 rfl⟩, ?_⟩
          simp only [List.setIfInBounds_toArray, List.set_cons_zero, List.set_cons_succ]
          refine one_ready 5 (by kernel_rfl) ?_
          refine opd rfl (wanted_none rfl) (m_call hm295 15 (.agg (ws c)) rfl (run_load rfl rfl) (load_any c _) (fun w296 hm297 => ?_))
          refine ⟨⟨hm297.at 0 rfl, hm297.at 1 rfl, hm297.at 2 rfl⟩, ?_⟩
          simp only [List.setIfInBounds_toArray, List.set_cons_zero, List.set_cons_succ]
          refine one_ready 6 (by kernel_rfl) ?_
          refine opd rfl (wanted_none rfl) (m_call hm297 16 (.tuple #[.agg (ws (a * b + c)), .agg (ws ((a * b + c) / MM))]) rfl (run_product rfl rfl rfl rfl) (product_any a b c ha hb hc _) (fun w298 hm299 => ?_))
          refine ⟨⟨hm299.at 0 rfl, hm299.at 1 rfl, hm299.at 2 rfl⟩, ?_⟩
          simp only [List.setIfInBounds_toArray, List.set_cons_zero, List.set_cons_succ]
          refine Sym.take_at 7 9 (.tuple #[.agg (ws (a * b + c)), .agg (ws ((a * b + c) / MM))]) rfl rfl (by kernel_rfl) (by kernel_rfl) (by kernel_rfl) (fun _ _ _ h => nomatch h.1) (wanted_none rfl) (fun _ hw => run_mv rfl rfl) (⟨hm299.at 0 rfl, hm299.at 1 rfl, hm299.at 2 rfl⟩) ?_
          simp only [List.setIfInBounds_toArray, List.set_cons_zero, List.set_cons_succ]
          refine Sym.take_at 8 17 (.agg (ws (a * b + c))) rfl rfl (by kernel_rfl) (by kernel_rfl) (by kernel_rfl) (fun _ _ _ h => nomatch h.1) (wanted_none rfl) (fun _ hw => run_ex rfl rfl rfl) (⟨hm299.at 0 rfl, hm299.at 1 rfl, hm299.at 2 rfl⟩) ?_
          simp only [List.setIfInBounds_toArray, List.set_cons_zero, List.set_cons_succ]
          refine Sym.take_at 9 18 (.agg (ws ((a * b + c) / MM))) rfl rfl (by kernel_rfl) (by kernel_rfl) (by kernel_rfl) (fun _ _ _ h => nomatch h.1) (wanted_none rfl) (fun _ hw => run_ex rfl rfl rfl) (⟨hm299.at 0 rfl, hm299.at 1 rfl, hm299.at 2 rfl⟩) ?_
          simp only [List.setIfInBounds_toArray, List.set_cons_zero, List.set_cons_succ]
          refine one_ready 12 (by kernel_rfl) ?_
          refine opd rfl (wanted_none rfl) (m_store 4 37 _ _ (ws (a * b + c)) (old := ws 0) hm299 rfl rfl rfl rfl rfl (by rw [ws_sz]; exact info_w) ((ws_sz _).trans (ws_sz _).symm) (ws_one _) (fun w300 (hm301 : Mm w w300 [(g2, bs a, 23), (g5, bs b, 23), (g8, bs c, 23), (g11, bs 0, 23), (g253, ws (a * b + c), 37), (g291, ws 0, 37)]) => ?_))
          refine ⟨⟨hm301.at 0 rfl, hm301.at 1 rfl, hm301.at 2 rfl⟩, ?_⟩
          refine one_ready 13 (by kernel_rfl) ?_
          refine opd rfl (wanted_none rfl) (m_store 5 37 _ _ (ws ((a * b + c) / MM)) (old := ws 0) hm301 rfl rfl rfl rfl rfl (by rw [ws_sz]; exact info_w) ((ws_sz _).trans (ws_sz _).symm) (ws_one _) (fun w302 (hm303 : Mm w w302 [(g2, bs a, 23), (g5, bs b, 23), (g8, bs c, 23), (g11, bs 0, 23), (g253, ws (a * b + c), 37), (g291, ws ((a * b + c) / MM), 37)]) => ?_))
          refine ⟨⟨hm303.at 0 rfl, hm303.at 1 rfl, hm303.at 2 rfl⟩, ?_⟩
          refine wpAnyH_done (by kernel_rfl) ?_ _
          exact ⟨rfl, g253, g291, rfl, hm303⟩
      · refine opd rfl (wanted_none rfl) (m_alloc (c := ws 0) (T := 37) hm255 8 rfl (al_W rfl) (fun g304 w305 (hm306 : Mm w w305 [(g2, bs a, 23), (g5, bs b, 23), (g8, bs c, 23), (g11, bs 0, 23), (g253, ws 0, 37), (g304, ws 0, 37)]) => ?_))
        refine ⟨⟨hm306.at 0 rfl, hm306.at 1 rfl, hm306.at 2 rfl⟩, ?_⟩
        simp only [List.setIfInBounds_toArray, List.set_cons_zero, List.set_cons_succ]
        refine one_ready 1 (by kernel_rfl) ?_
        refine opd rfl (wanted_none rfl) (m_call hm306 11 (.agg (ws a)) rfl (run_load rfl rfl) (load_any a _) (fun w307 hm308 => ?_))
        refine ⟨⟨hm308.at 0 rfl, hm308.at 1 rfl, hm308.at 2 rfl⟩, ?_⟩
        simp only [List.setIfInBounds_toArray, List.set_cons_zero, List.set_cons_succ]
        refine one_ready 3 (by kernel_rfl) ?_
        refine opd rfl (wanted_none rfl) (m_call hm308 13 (.agg (ws b)) rfl (run_load rfl rfl) (load_any b _) (fun w309 hm310 => ?_))
        refine ⟨⟨hm310.at 0 rfl, hm310.at 1 rfl, hm310.at 2 rfl⟩, ?_⟩
        simp only [List.setIfInBounds_toArray, List.set_cons_zero, List.set_cons_succ]
        refine one_ready 5 (by kernel_rfl) ?_
        refine opd rfl (wanted_none rfl) (m_call hm310 15 (.agg (ws c)) rfl (run_load rfl rfl) (load_any c _) (fun w311 hm312 => ?_))
        refine ⟨⟨hm312.at 0 rfl, hm312.at 1 rfl, hm312.at 2 rfl⟩, ?_⟩
        simp only [List.setIfInBounds_toArray, List.set_cons_zero, List.set_cons_succ]
        refine one_ready 6 (by kernel_rfl) ?_
        refine opd rfl (wanted_none rfl) (m_call hm312 16 (.tuple #[.agg (ws (a * b + c)), .agg (ws ((a * b + c) / MM))]) rfl (run_product rfl rfl rfl rfl) (product_any a b c ha hb hc _) (fun w313 hm314 => ?_))
        refine ⟨⟨hm314.at 0 rfl, hm314.at 1 rfl, hm314.at 2 rfl⟩, ?_⟩
        simp only [List.setIfInBounds_toArray, List.set_cons_zero, List.set_cons_succ]
        refine Sym.take_at 7 9 (.tuple #[.agg (ws (a * b + c)), .agg (ws ((a * b + c) / MM))]) rfl rfl (by kernel_rfl) (by kernel_rfl) (by kernel_rfl) (fun _ _ _ h => nomatch h.1) (wanted_none rfl) (fun _ hw => run_mv rfl rfl) (⟨hm314.at 0 rfl, hm314.at 1 rfl, hm314.at 2 rfl⟩) ?_
        simp only [List.setIfInBounds_toArray, List.set_cons_zero, List.set_cons_succ]
        refine Sym.take_at 8 17 (.agg (ws (a * b + c))) rfl rfl (by kernel_rfl) (by kernel_rfl) (by kernel_rfl) (fun _ _ _ h => nomatch h.1) (wanted_none rfl) (fun _ hw => run_ex rfl rfl rfl) (⟨hm314.at 0 rfl, hm314.at 1 rfl, hm314.at 2 rfl⟩) ?_
        simp only [List.setIfInBounds_toArray, List.set_cons_zero, List.set_cons_succ]
        refine Sym.take_at 9 18 (.agg (ws ((a * b + c) / MM))) rfl rfl (by kernel_rfl) (by kernel_rfl) (by kernel_rfl) (fun _ _ _ h => nomatch h.1) (wanted_none rfl) (fun _ hw => run_ex rfl rfl rfl) (⟨hm314.at 0 rfl, hm314.at 1 rfl, hm314.at 2 rfl⟩) ?_
        simp only [List.setIfInBounds_toArray, List.set_cons_zero, List.set_cons_succ]
        refine one_ready 12 (by kernel_rfl) ?_
        refine opd rfl (wanted_none rfl) (m_store 4 37 _ _ (ws (a * b + c)) (old := ws 0) hm314 rfl rfl rfl rfl rfl (by rw [ws_sz]; exact info_w) ((ws_sz _).trans (ws_sz _).symm) (ws_one _) (fun w315 (hm316 : Mm w w315 [(g2, bs a, 23), (g5, bs b, 23), (g8, bs c, 23), (g11, bs 0, 23), (g253, ws (a * b + c), 37), (g304, ws 0, 37)]) => ?_))
        refine ⟨⟨hm316.at 0 rfl, hm316.at 1 rfl, hm316.at 2 rfl⟩, ?_⟩
        refine one_ready 13 (by kernel_rfl) ?_
        refine opd rfl (wanted_none rfl) (m_store 5 37 _ _ (ws ((a * b + c) / MM)) (old := ws 0) hm316 rfl rfl rfl rfl rfl (by rw [ws_sz]; exact info_w) ((ws_sz _).trans (ws_sz _).symm) (ws_one _) (fun w317 (hm318 : Mm w w317 [(g2, bs a, 23), (g5, bs b, 23), (g8, bs c, 23), (g11, bs 0, 23), (g253, ws (a * b + c), 37), (g304, ws ((a * b + c) / MM), 37)]) => ?_))
        refine ⟨⟨hm318.at 0 rfl, hm318.at 1 rfl, hm318.at 2 rfl⟩, ?_⟩
        refine wpAnyH_done (by kernel_rfl) ?_ _
        exact ⟨rfl, g253, g304, rfl, hm318⟩
    · refine opd rfl (wanted_none rfl) (m_alloc (c := ws 0) (T := 37) hm15 8 rfl (al_W rfl) (fun g319 w320 (hm321 : Mm w w320 [(g2, bs a, 23), (g5, bs b, 23), (g8, bs c, 23), (g11, bs 0, 23), (g319, ws 0, 37)]) => ?_))
      refine ⟨⟨hm321.at 0 rfl, hm321.at 1 rfl, hm321.at 2 rfl⟩, ?_⟩
      simp only [List.setIfInBounds_toArray, List.set_cons_zero, List.set_cons_succ]
      refine two_ready 1 10 (by kernel_rfl) ?_ ?_
      · refine opd rfl (wanted_none rfl) (m_call hm321 11 (.agg (ws a)) rfl (run_load rfl rfl) (load_any a _) (fun w322 hm323 => ?_))
        refine ⟨⟨hm323.at 0 rfl, hm323.at 1 rfl, hm323.at 2 rfl⟩, ?_⟩
        simp only [List.setIfInBounds_toArray, List.set_cons_zero, List.set_cons_succ]
        refine two_ready 3 10 (by kernel_rfl) ?_ ?_
        · refine opd rfl (wanted_none rfl) (m_call hm323 13 (.agg (ws b)) rfl (run_load rfl rfl) (load_any b _) (fun w324 hm325 => ?_))
          refine ⟨⟨hm325.at 0 rfl, hm325.at 1 rfl, hm325.at 2 rfl⟩, ?_⟩
          simp only [List.setIfInBounds_toArray, List.set_cons_zero, List.set_cons_succ]
          refine two_ready 5 10 (by kernel_rfl) ?_ ?_
          · refine opd rfl (wanted_none rfl) (m_call hm325 15 (.agg (ws c)) rfl (run_load rfl rfl) (load_any c _) (fun w326 hm327 => ?_))
            refine ⟨⟨hm327.at 0 rfl, hm327.at 1 rfl, hm327.at 2 rfl⟩, ?_⟩
            simp only [List.setIfInBounds_toArray, List.set_cons_zero, List.set_cons_succ]
            refine two_ready 6 10 (by kernel_rfl) ?_ ?_
            · refine opd rfl (wanted_none rfl) (m_call hm327 16 (.tuple #[.agg (ws (a * b + c)), .agg (ws ((a * b + c) / MM))]) rfl (run_product rfl rfl rfl rfl) (product_any a b c ha hb hc _) (fun w328 hm329 => ?_))
              refine ⟨⟨hm329.at 0 rfl, hm329.at 1 rfl, hm329.at 2 rfl⟩, ?_⟩
              simp only [List.setIfInBounds_toArray, List.set_cons_zero, List.set_cons_succ]
              refine Sym.take_at 7 9 (.tuple #[.agg (ws (a * b + c)), .agg (ws ((a * b + c) / MM))]) rfl rfl (by kernel_rfl) (by kernel_rfl) (by kernel_rfl) (fun _ _ _ h => nomatch h.1) (wanted_none rfl) (fun _ hw => run_mv rfl rfl) (⟨hm329.at 0 rfl, hm329.at 1 rfl, hm329.at 2 rfl⟩) ?_
              simp only [List.setIfInBounds_toArray, List.set_cons_zero, List.set_cons_succ]
              refine Sym.take_at 8 17 (.agg (ws (a * b + c))) rfl rfl (by kernel_rfl) (by kernel_rfl) (by kernel_rfl) (fun _ _ _ h => nomatch h.1) (wanted_none rfl) (fun _ hw => run_ex rfl rfl rfl) (⟨hm329.at 0 rfl, hm329.at 1 rfl, hm329.at 2 rfl⟩) ?_
              simp only [List.setIfInBounds_toArray, List.set_cons_zero, List.set_cons_succ]
              refine Sym.take_at 9 18 (.agg (ws ((a * b + c) / MM))) rfl rfl (by kernel_rfl) (by kernel_rfl) (by kernel_rfl) (fun _ _ _ h => nomatch h.1) (wanted_none rfl) (fun _ hw => run_ex rfl rfl rfl) (⟨hm329.at 0 rfl, hm329.at 1 rfl, hm329.at 2 rfl⟩) ?_
              simp only [List.setIfInBounds_toArray, List.set_cons_zero, List.set_cons_succ]
              refine one_ready 10 (by kernel_rfl) ?_
              refine opd rfl (wanted_none rfl) (m_alloc (c := ws 0) (T := 37) hm329 7 rfl (al_W rfl) (fun g330 w331 (hm332 : Mm w w331 [(g2, bs a, 23), (g5, bs b, 23), (g8, bs c, 23), (g11, bs 0, 23), (g319, ws 0, 37), (g330, ws 0, 37)]) => ?_))
              refine ⟨⟨hm332.at 0 rfl, hm332.at 1 rfl, hm332.at 2 rfl⟩, ?_⟩
              simp only [List.setIfInBounds_toArray, List.set_cons_zero, List.set_cons_succ]
              refine one_ready 12 (by kernel_rfl) ?_
              refine opd rfl (wanted_none rfl) (m_store 5 37 _ _ (ws (a * b + c)) (old := ws 0) hm332 rfl rfl rfl rfl rfl (by rw [ws_sz]; exact info_w) ((ws_sz _).trans (ws_sz _).symm) (ws_one _) (fun w333 (hm334 : Mm w w333 [(g2, bs a, 23), (g5, bs b, 23), (g8, bs c, 23), (g11, bs 0, 23), (g319, ws 0, 37), (g330, ws (a * b + c), 37)]) => ?_))
              refine ⟨⟨hm334.at 0 rfl, hm334.at 1 rfl, hm334.at 2 rfl⟩, ?_⟩
              refine one_ready 13 (by kernel_rfl) ?_
              refine opd rfl (wanted_none rfl) (m_store 4 37 _ _ (ws ((a * b + c) / MM)) (old := ws 0) hm334 rfl rfl rfl rfl rfl (by rw [ws_sz]; exact info_w) ((ws_sz _).trans (ws_sz _).symm) (ws_one _) (fun w335 (hm336 : Mm w w335 [(g2, bs a, 23), (g5, bs b, 23), (g8, bs c, 23), (g11, bs 0, 23), (g319, ws ((a * b + c) / MM), 37), (g330, ws (a * b + c), 37)]) => ?_))
              refine ⟨⟨hm336.at 0 rfl, hm336.at 1 rfl, hm336.at 2 rfl⟩, ?_⟩
              refine wpAnyH_done (by kernel_rfl) ?_ _
              exact ⟨rfl, g330, g319, rfl, (Mm.reorder hm336 [0, 1, 2, 3, 5, 4] (by decide) rfl)⟩
            · refine opd rfl (wanted_none rfl) (m_alloc (c := ws 0) (T := 37) hm327 7 rfl (al_W rfl) (fun g337 w338 (hm339 : Mm w w338 [(g2, bs a, 23), (g5, bs b, 23), (g8, bs c, 23), (g11, bs 0, 23), (g319, ws 0, 37), (g337, ws 0, 37)]) => ?_))
              refine ⟨⟨hm339.at 0 rfl, hm339.at 1 rfl, hm339.at 2 rfl⟩, ?_⟩
              simp only [List.setIfInBounds_toArray, List.set_cons_zero, List.set_cons_succ]
              refine one_ready 6 (by kernel_rfl) ?_
              refine opd rfl (wanted_none rfl) (m_call hm339 16 (.tuple #[.agg (ws (a * b + c)), .agg (ws ((a * b + c) / MM))]) rfl (run_product rfl rfl rfl rfl) (product_any a b c ha hb hc _) (fun w340 hm341 => ?_))
              refine ⟨⟨hm341.at 0 rfl, hm341.at 1 rfl, hm341.at 2 rfl⟩, ?_⟩
              simp only [List.setIfInBounds_toArray, List.set_cons_zero, List.set_cons_succ]
              refine Sym.take_at 7 9 (.tuple #[.agg (ws (a * b + c)), .agg (ws ((a * b + c) / MM))]) rfl rfl (by kernel_rfl) (by kernel_rfl) (by kernel_rfl) (fun _ _ _ h => nomatch h.1) (wanted_none rfl) (fun _ hw => run_mv rfl rfl) (⟨hm341.at 0 rfl, hm341.at 1 rfl, hm341.at 2 rfl⟩) ?_
              simp only [List.setIfInBounds_toArray, List.set_cons_zero, List.set_cons_succ]
              refine Sym.take_at 8 17 (.agg (ws (a * b + c))) rfl rfl (by kernel_rfl) (by kernel_rfl) (by kernel_rfl) (fun _ _ _ h => nomatch h.1) (wanted_none rfl) (fun _ hw => run_ex rfl rfl rfl) (⟨hm341.at 0 rfl, hm341.at 1 rfl, hm341.at 2 rfl⟩) ?_
              simp only [List.setIfInBounds_toArray, List.set_cons_zero, List.set_cons_succ]
              refine Sym.take_at 9 18 (.agg (ws ((a * b + c) / MM))) rfl rfl (by kernel_rfl) (by kernel_rfl) (by kernel_rfl) (fun _ _ _ h => nomatch h.1) (wanted_none rfl) (fun _ hw => run_ex rfl rfl rfl) (⟨hm341.at 0 rfl, hm341.at 1 rfl, hm341.at 2 rfl⟩) ?_
              simp only [List.setIfInBounds_toArray, List.set_cons_zero, List.set_cons_succ]
              refine one_ready 12 (by kernel_rfl) ?_
              refine opd rfl (wanted_none rfl) (m_store 5 37 _ _ (ws (a * b + c)) (old := ws 0) hm341 rfl rfl rfl rfl rfl (by rw [ws_sz]; exact info_w) ((ws_sz _).trans (ws_sz _).symm) (ws_one _) (fun w342 (hm343 : Mm w w342 [(g2, bs a, 23), (g5, bs b, 23), (g8, bs c, 23), (g11, bs 0, 23), (g319, ws 0, 37), (g337, ws (a * b + c), 37)]) => ?_))
              refine ⟨⟨hm343.at 0 rfl, hm343.at 1 rfl, hm343.at 2 rfl⟩, ?_⟩
              refine one_ready 13 (by kernel_rfl) ?_
              refine opd rfl (wanted_none rfl) (m_store 4 37 _ _ (ws ((a * b + c) / MM)) (old := ws 0) hm343 rfl rfl rfl rfl rfl (by rw [ws_sz]; exact info_w) ((ws_sz _).trans (ws_sz _).symm) (ws_one _) (fun w344 (hm345 : Mm w w344 [(g2, bs a, 23), (g5, bs b, 23), (g8, bs c, 23), (g11, bs 0, 23), (g319, ws ((a * b + c) / MM), 37), (g337, ws (a * b + c), 37)]) => ?_))
              refine ⟨⟨hm345.at 0 rfl, hm345.at 1 rfl, hm345.at 2 rfl⟩, ?_⟩
              refine wpAnyH_done (by kernel_rfl) ?_ _
              exact ⟨rfl, g337, g319, rfl, (Mm.reorder hm345 [0, 1, 2, 3, 5, 4] (by decide) rfl)⟩
          · refine opd rfl (wanted_none rfl) (m_alloc (c := ws 0) (T := 37) hm325 7 rfl (al_W rfl) (fun g346 w347 (hm348 : Mm w w347 [(g2, bs a, 23), (g5, bs b, 23), (g8, bs c, 23), (g11, bs 0, 23), (g319, ws 0, 37), (g346, ws 0, 37)]) => ?_))
            refine ⟨⟨hm348.at 0 rfl, hm348.at 1 rfl, hm348.at 2 rfl⟩, ?_⟩
            simp only [List.setIfInBounds_toArray, List.set_cons_zero, List.set_cons_succ]
            refine one_ready 5 (by kernel_rfl) ?_
            refine opd rfl (wanted_none rfl) (m_call hm348 15 (.agg (ws c)) rfl (run_load rfl rfl) (load_any c _) (fun w349 hm350 => ?_))
            refine ⟨⟨hm350.at 0 rfl, hm350.at 1 rfl, hm350.at 2 rfl⟩, ?_⟩
            simp only [List.setIfInBounds_toArray, List.set_cons_zero, List.set_cons_succ]
            refine one_ready 6 (by kernel_rfl) ?_
            refine opd rfl (wanted_none rfl) (m_call hm350 16 (.tuple #[.agg (ws (a * b + c)), .agg (ws ((a * b + c) / MM))]) rfl (run_product rfl rfl rfl rfl) (product_any a b c ha hb hc _) (fun w351 hm352 => ?_))
            refine ⟨⟨hm352.at 0 rfl, hm352.at 1 rfl, hm352.at 2 rfl⟩, ?_⟩
            simp only [List.setIfInBounds_toArray, List.set_cons_zero, List.set_cons_succ]
            refine Sym.take_at 7 9 (.tuple #[.agg (ws (a * b + c)), .agg (ws ((a * b + c) / MM))]) rfl rfl (by kernel_rfl) (by kernel_rfl) (by kernel_rfl) (fun _ _ _ h => nomatch h.1) (wanted_none rfl) (fun _ hw => run_mv rfl rfl) (⟨hm352.at 0 rfl, hm352.at 1 rfl, hm352.at 2 rfl⟩) ?_
            simp only [List.setIfInBounds_toArray, List.set_cons_zero, List.set_cons_succ]
            refine Sym.take_at 8 17 (.agg (ws (a * b + c))) rfl rfl (by kernel_rfl) (by kernel_rfl) (by kernel_rfl) (fun _ _ _ h => nomatch h.1) (wanted_none rfl) (fun _ hw => run_ex rfl rfl rfl) (⟨hm352.at 0 rfl, hm352.at 1 rfl, hm352.at 2 rfl⟩) ?_
            simp only [List.setIfInBounds_toArray, List.set_cons_zero, List.set_cons_succ]
            refine Sym.take_at 9 18 (.agg (ws ((a * b + c) / MM))) rfl rfl (by kernel_rfl) (by kernel_rfl) (by kernel_rfl) (fun _ _ _ h => nomatch h.1) (wanted_none rfl) (fun _ hw => run_ex rfl rfl rfl) (⟨hm352.at 0 rfl, hm352.at 1 rfl, hm352.at 2 rfl⟩) ?_
            simp only [List.setIfInBounds_toArray, List.set_cons_zero, List.set_cons_succ]
            refine one_ready 12 (by kernel_rfl) ?_
            refine opd rfl (wanted_none rfl) (m_store 5 37 _ _ (ws (a * b + c)) (old := ws 0) hm352 rfl rfl rfl rfl rfl (by rw [ws_sz]; exact info_w) ((ws_sz _).trans (ws_sz _).symm) (ws_one _) (fun w353 (hm354 : Mm w w353 [(g2, bs a, 23), (g5, bs b, 23), (g8, bs c, 23), (g11, bs 0, 23), (g319, ws 0, 37), (g346, ws (a * b + c), 37)]) => ?_))
            refine ⟨⟨hm354.at 0 rfl, hm354.at 1 rfl, hm354.at 2 rfl⟩, ?_⟩
            refine one_ready 13 (by kernel_rfl) ?_
            refine opd rfl (wanted_none rfl) (m_store 4 37 _ _ (ws ((a * b + c) / MM)) (old := ws 0) hm354 rfl rfl rfl rfl rfl (by rw [ws_sz]; exact info_w) ((ws_sz _).trans (ws_sz _).symm) (ws_one _) (fun w355 (hm356 : Mm w w355 [(g2, bs a, 23), (g5, bs b, 23), (g8, bs c, 23), (g11, bs 0, 23), (g319, ws ((a * b + c) / MM), 37), (g346, ws (a * b + c), 37)]) => ?_))
            refine ⟨⟨hm356.at 0 rfl, hm356.at 1 rfl, hm356.at 2 rfl⟩, ?_⟩
            refine wpAnyH_done (by kernel_rfl) ?_ _
            exact ⟨rfl, g346, g319, rfl, (Mm.reorder hm356 [0, 1, 2, 3, 5, 4] (by decide) rfl)⟩
        · refine opd rfl (wanted_none rfl) (m_alloc (c := ws 0) (T := 37) hm323 7 rfl (al_W rfl) (fun g357 w358 (hm359 : Mm w w358 [(g2, bs a, 23), (g5, bs b, 23), (g8, bs c, 23), (g11, bs 0, 23), (g319, ws 0, 37), (g357, ws 0, 37)]) => ?_))
          refine ⟨⟨hm359.at 0 rfl, hm359.at 1 rfl, hm359.at 2 rfl⟩, ?_⟩
          simp only [List.setIfInBounds_toArray, List.set_cons_zero, List.set_cons_succ]
          refine one_ready 3 (by kernel_rfl) ?_
          refine opd rfl (wanted_none rfl) (m_call hm359 13 (.agg (ws b)) rfl (run_load rfl rfl) (load_any b _) (fun w360 hm361 => ?_))
          refine ⟨⟨hm361.at 0 rfl, hm361.at 1 rfl, hm361.at 2 rfl⟩, ?_⟩
          simp only [List.setIfInBounds_toArray, List.set_cons_zero, List.set_cons_succ]
          refine one_ready 5 (by kernel_rfl) ?_
          refine opd rfl (wanted_none rfl) (m_call hm361 15 (.agg (ws c)) rfl (run_load rfl rfl) (load_any c _) (fun w362 hm363 => ?_))
          refine ⟨⟨hm363.at 0 rfl, hm363.at 1 rfl, hm363.at 2 rfl⟩, ?_⟩
          simp only [List.setIfInBounds_toArray, List.set_cons_zero, List.set_cons_succ]
          refine one_ready 6 (by kernel_rfl) ?_
          refine opd rfl (wanted_none rfl) (m_call hm363 16 (.tuple #[.agg (ws (a * b + c)), .agg (ws ((a * b + c) / MM))]) rfl (run_product rfl rfl rfl rfl) (product_any a b c ha hb hc _) (fun w364 hm365 => ?_))
          refine ⟨⟨hm365.at 0 rfl, hm365.at 1 rfl, hm365.at 2 rfl⟩, ?_⟩
          simp only [List.setIfInBounds_toArray, List.set_cons_zero, List.set_cons_succ]
          refine Sym.take_at 7 9 (.tuple #[.agg (ws (a * b + c)), .agg (ws ((a * b + c) / MM))]) rfl rfl (by kernel_rfl) (by kernel_rfl) (by kernel_rfl) (fun _ _ _ h => nomatch h.1) (wanted_none rfl) (fun _ hw => run_mv rfl rfl) (⟨hm365.at 0 rfl, hm365.at 1 rfl, hm365.at 2 rfl⟩) ?_
          simp only [List.setIfInBounds_toArray, List.set_cons_zero, List.set_cons_succ]
          refine Sym.take_at 8 17 (.agg (ws (a * b + c))) rfl rfl (by kernel_rfl) (by kernel_rfl) (by kernel_rfl) (fun _ _ _ h => nomatch h.1) (wanted_none rfl) (fun _ hw => run_ex rfl rfl rfl) (⟨hm365.at 0 rfl, hm365.at 1 rfl, hm365.at 2 rfl⟩) ?_
          simp only [List.setIfInBounds_toArray, List.set_cons_zero, List.set_cons_succ]
          refine Sym.take_at 9 18 (.agg (ws ((a * b + c) / MM))) rfl rfl (by kernel_rfl) (by kernel_rfl) (by kernel_rfl) (fun _ _ _ h => nomatch h.1) (wanted_none rfl) (fun _ hw => run_ex rfl rfl rfl) (⟨hm365.at 0 rfl, hm365.at 1 rfl, hm365.at 2 rfl⟩) ?_
          simp only [List.setIfInBounds_toArray, List.set_cons_zero, List.set_cons_succ]
          refine one_ready 12 (by kernel_rfl) ?_
          refine opd rfl (wanted_none rfl) (m_store 5 37 _ _ (ws (a * b + c)) (old := ws 0) hm365 rfl rfl rfl rfl rfl (by rw [ws_sz]; exact info_w) ((ws_sz _).trans (ws_sz _).symm) (ws_one _) (fun w366 (hm367 : Mm w w366 [(g2, bs a, 23), (g5, bs b, 23), (g8, bs c, 23), (g11, bs 0, 23), (g319, ws 0, 37), (g357, ws (a * b + c), 37)]) => ?_))
          refine ⟨⟨hm367.at 0 rfl, hm367.at 1 rfl, hm367.at 2 rfl⟩, ?_⟩
          refine one_ready 13 (by kernel_rfl) ?_
          refine opd rfl (wanted_none rfl) (m_store 4 37 _ _ (ws ((a * b + c) / MM)) (old := ws 0) hm367 rfl rfl rfl rfl rfl (by rw [ws_sz]; exact info_w) ((ws_sz _).trans (ws_sz _).symm) (ws_one _) (fun w368 (hm369 : Mm w w368 [(g2, bs a, 23), (g5, bs b, 23), (g8, bs c, 23), (g11, bs 0, 23), (g319, ws ((a * b + c) / MM), 37), (g357, ws (a * b + c), 37)]) => ?_))
          refine ⟨⟨hm369.at 0 rfl, hm369.at 1 rfl, hm369.at 2 rfl⟩, ?_⟩
          refine wpAnyH_done (by kernel_rfl) ?_ _
          exact ⟨rfl, g357, g319, rfl, (Mm.reorder hm369 [0, 1, 2, 3, 5, 4] (by decide) rfl)⟩
      · refine opd rfl (wanted_none rfl) (m_alloc (c := ws 0) (T := 37) hm321 7 rfl (al_W rfl) (fun g370 w371 (hm372 : Mm w w371 [(g2, bs a, 23), (g5, bs b, 23), (g8, bs c, 23), (g11, bs 0, 23), (g319, ws 0, 37), (g370, ws 0, 37)]) => ?_))
        refine ⟨⟨hm372.at 0 rfl, hm372.at 1 rfl, hm372.at 2 rfl⟩, ?_⟩
        simp only [List.setIfInBounds_toArray, List.set_cons_zero, List.set_cons_succ]
        refine one_ready 1 (by kernel_rfl) ?_
        refine opd rfl (wanted_none rfl) (m_call hm372 11 (.agg (ws a)) rfl (run_load rfl rfl) (load_any a _) (fun w373 hm374 => ?_))
        refine ⟨⟨hm374.at 0 rfl, hm374.at 1 rfl, hm374.at 2 rfl⟩, ?_⟩
        simp only [List.setIfInBounds_toArray, List.set_cons_zero, List.set_cons_succ]
        refine one_ready 3 (by kernel_rfl) ?_
        refine opd rfl (wanted_none rfl) (m_call hm374 13 (.agg (ws b)) rfl (run_load rfl rfl) (load_any b _) (fun w375 hm376 => ?_))
        refine ⟨⟨hm376.at 0 rfl, hm376.at 1 rfl, hm376.at 2 rfl⟩, ?_⟩
        simp only [List.setIfInBounds_toArray, List.set_cons_zero, List.set_cons_succ]
        refine one_ready 5 (by kernel_rfl) ?_
        refine opd rfl (wanted_none rfl) (m_call hm376 15 (.agg (ws c)) rfl (run_load rfl rfl) (load_any c _) (fun w377 hm378 => ?_))
        refine ⟨⟨hm378.at 0 rfl, hm378.at 1 rfl, hm378.at 2 rfl⟩, ?_⟩
        simp only [List.setIfInBounds_toArray, List.set_cons_zero, List.set_cons_succ]
        refine one_ready 6 (by kernel_rfl) ?_
        refine opd rfl (wanted_none rfl) (m_call hm378 16 (.tuple #[.agg (ws (a * b + c)), .agg (ws ((a * b + c) / MM))]) rfl (run_product rfl rfl rfl rfl) (product_any a b c ha hb hc _) (fun w379 hm380 => ?_))
        refine ⟨⟨hm380.at 0 rfl, hm380.at 1 rfl, hm380.at 2 rfl⟩, ?_⟩
        simp only [List.setIfInBounds_toArray, List.set_cons_zero, List.set_cons_succ]
        refine Sym.take_at 7 9 (.tuple #[.agg (ws (a * b + c)), .agg (ws ((a * b + c) / MM))]) rfl rfl (by kernel_rfl) (by kernel_rfl) (by kernel_rfl) (fun _ _ _ h => nomatch h.1) (wanted_none rfl) (fun _ hw => run_mv rfl rfl) (⟨hm380.at 0 rfl, hm380.at 1 rfl, hm380.at 2 rfl⟩) ?_
        simp only [List.setIfInBounds_toArray, List.set_cons_zero, List.set_cons_succ]
        refine Sym.take_at 8 17 (.agg (ws (a * b + c))) rfl rfl (by kernel_rfl) (by kernel_rfl) (by kernel_rfl) (fun _ _ _ h => nomatch h.1) (wanted_none rfl) (fun _ hw => run_ex rfl rfl rfl) (⟨hm380.at 0 rfl, hm380.at 1 rfl, hm380.at 2 rfl⟩) ?_
        simp only [List.setIfInBounds_toArray, List.set_cons_zero, List.set_cons_succ]
        refine Sym.take_at 9 18 (.agg (ws ((a * b + c) / MM))) rfl rfl (by kernel_rfl) (by kernel_rfl) (by kernel_rfl) (fun _ _ _ h => nomatch h.1) (wanted_none rfl) (fun _ hw => run_ex rfl rfl rfl) (⟨hm380.at 0 rfl, hm380.at 1 rfl, hm380.at 2 rfl⟩) ?_
        simp only [List.setIfInBounds_toArray, List.set_cons_zero, List.set_cons_succ]
        refine one_ready 12 (by kernel_rfl) ?_
        refine opd rfl (wanted_none rfl) (m_store 5 37 _ _ (ws (a * b + c)) (old := ws 0) hm380 rfl rfl rfl rfl rfl (by rw [ws_sz]; exact info_w) ((ws_sz _).trans (ws_sz _).symm) (ws_one _) (fun w381 (hm382 : Mm w w381 [(g2, bs a, 23), (g5, bs b, 23), (g8, bs c, 23), (g11, bs 0, 23), (g319, ws 0, 37), (g370, ws (a * b + c), 37)]) => ?_))
        refine ⟨⟨hm382.at 0 rfl, hm382.at 1 rfl, hm382.at 2 rfl⟩, ?_⟩
        refine one_ready 13 (by kernel_rfl) ?_
        refine opd rfl (wanted_none rfl) (m_store 4 37 _ _ (ws ((a * b + c) / MM)) (old := ws 0) hm382 rfl rfl rfl rfl rfl (by rw [ws_sz]; exact info_w) ((ws_sz _).trans (ws_sz _).symm) (ws_one _) (fun w383 (hm384 : Mm w w383 [(g2, bs a, 23), (g5, bs b, 23), (g8, bs c, 23), (g11, bs 0, 23), (g319, ws ((a * b + c) / MM), 37), (g370, ws (a * b + c), 37)]) => ?_))
        refine ⟨⟨hm384.at 0 rfl, hm384.at 1 rfl, hm384.at 2 rfl⟩, ?_⟩
        refine wpAnyH_done (by kernel_rfl) ?_ _
        exact ⟨rfl, g370, g319, rfl, (Mm.reorder hm384 [0, 1, 2, 3, 5, 4] (by decide) rfl)⟩
  clear hm13
  rintro _ _ w385 ⟨rfl, g25, g28, rfl, hm386⟩
  have hm387 : Mm w w385 [(g2, bs a, 23), (g5, bs b, 23), (g8, bs c, 23), (g11, bs 0, 23), (g25, ws ((a * b + c) % MM), 37), (g28, ws ((a * b + c) / MM), 37)] := by rw [show (ws ((a * b + c) % MM) : Array Value) = ws (a * b + c) from ws_mod _]; exact hm386
  refine then_n (hK14 _ _ ?_)
  refine wp_seq_k (fun K388 hK388 => ?_)
  refine wp_region_lit ?_
  refine lst (wanted_none rfl) (w_value 19 (.agg (ws ((a * b + c) % MM))) rfl (run_row rfl rfl (hm387.at 4 rfl) Try.underlying37 rfl (by rw [ws_sz]; exact info_w)) ?_)
  simp only [List.setIfInBounds_toArray, List.set_cons_zero, List.set_cons_succ]
  refine lst (wanted_none rfl) (w_value 20 (.agg (ws ((a * b + c) / MM))) rfl (run_row rfl rfl (hm387.at 5 rfl) Try.underlying37 rfl (by rw [ws_sz]; exact info_w)) ?_)
  simp only [List.setIfInBounds_toArray, List.set_cons_zero, List.set_cons_succ]
  refine lst (wanted_none rfl) (m_call hm387 21 (.agg (ws ((((a * b + c) % MM) + MM * ((a * b + c) / MM)) % LL))) rfl (run_rest rfl rfl rfl) (rest_any ((a * b + c) % MM) ((a * b + c) / MM) (Nat.mod_lt _ (by decide)) (div_MM_lt _ (sum_lt a b c ha hb hc)) _) (fun w389 hm390 => ?_))
  simp only [List.setIfInBounds_toArray, List.set_cons_zero, List.set_cons_succ]
  refine lst (wanted_none rfl) (m_call hm390 22 (.agg (bs ((((a * b + c) % MM) + MM * ((a * b + c) / MM)) % LL))) rfl (run_store rfl rfl) (store_any ((((a * b + c) % MM) + MM * ((a * b + c) / MM)) % LL) _) (fun w391 hm392 => ?_))
  simp only [List.setIfInBounds_toArray, List.set_cons_zero, List.set_cons_succ]
  refine lst (wanted_none rfl) (m_store 3 23 _ _ (bs ((((a * b + c) % MM) + MM * ((a * b + c) / MM)) % LL)) (old := bs 0) hm392 rfl rfl rfl rfl rfl (by rw [bs_sz]; exact info_b) ((bs_sz _).trans (bs_sz _).symm) (bs_one _) (fun w393 (hm394 : Mm w w393 [(g2, bs a, 23), (g5, bs b, 23), (g8, bs c, 23), (g11, bs ((((a * b + c) % MM) + MM * ((a * b + c) / MM)) % LL), 23), (g25, ws ((a * b + c) % MM), 37), (g28, ws ((a * b + c) / MM), 37)]) => ?_))
  refine wpList_nil ?_
  refine then_n (hK388 _ _ ?_)
  refine wp_ret ?_
  exact ⟨rfl, .agg (bs ((((a * b + c) % MM) + MM * ((a * b + c) / MM)) % LL)), res_c rfl rfl (hm394.at 3 rfl) Try.underlying23 rfl (by rw [bs_sz]; exact info_b), ⟨by rw [split_MM], hm394.below⟩⟩
set_option maxHeartbeats 1000000 in
set_option maxRecDepth 100000 in
theorem wide_no (s : ByteArray) (h : ¬ s.size = 64) (w : World) : Calls Try.prog 8 #[.string s] w (fun e w' => e = .returned (.tuple #[.agg (bs 0), .bool false]) ∧ Below w.heap.size w w') := by
  go_enter Try.func8, Try.ntmps8
  have hm0 := Mm.nil w
  refine wp_seq_k (fun K1 hK1 => ?_)
  refine wp_region_lit ?_
  refine lst (wanted_none rfl) (m_alloc (c := bs 0) (T := 23) hm0 2 rfl (al_N rfl) (fun g2 w3 (hm4 : Mm w w3 [(g2, bs 0, 23)]) => ?_))
  simp only [List.setIfInBounds_toArray, List.set_cons_zero, List.set_cons_succ]
  refine lst (wanted_none rfl) (w_value 3 (.bool false) rfl (run_as rfl rfl) ?_)
  simp only [List.setIfInBounds_toArray, List.set_cons_zero, List.set_cons_succ]
  refine wpList_nil ?_
  refine then_n (hK1 _ _ ?_)
  refine wp_seq_k (fun K5 hK5 => ?_)
  refine wp_region_lit ?_
  refine lst (wanted_none rfl) (m_alloc (c := bs 0) (T := 23) hm4 4 rfl (al_N rfl) (fun g6 w7 (hm8 : Mm w w7 [(g2, bs 0, 23), (g6, bs 0, 23)]) => ?_))
  simp only [List.setIfInBounds_toArray, List.set_cons_zero, List.set_cons_succ]
  refine lst (wanted_none rfl) (m_alloc (c := bs 0) (T := 23) hm8 5 rfl (al_N rfl) (fun g9 w10 (hm11 : Mm w w10 [(g2, bs 0, 23), (g6, bs 0, 23), (g9, bs 0, 23)]) => ?_))
  simp only [List.setIfInBounds_toArray, List.set_cons_zero, List.set_cons_succ]
  refine wpList_nil ?_
  refine then_n (hK5 _ _ ?_)
  refine wp_seq_k (fun K12 hK12 => ?_)
  refine wp_seq_k (fun K13 hK13 => ?_)
  refine wp_region_lit ?_
  refine lst (wanted_none rfl) (w_value 7 (.string s) rfl (run_mv rfl rfl) ?_)
  simp only [List.setIfInBounds_toArray, List.set_cons_zero, List.set_cons_succ]
  refine lst (wanted_none rfl) (w_value 8 (.int .i64 ((s.size : Nat) : Int)) rfl (r_len rfl Try.underlying9 rfl) ?_)
  simp only [List.setIfInBounds_toArray, List.set_cons_zero, List.set_cons_succ]
  refine lst (wanted_none rfl) (w_value 9 (.bool (decide (¬ s.size = 64))) rfl (r_neq s.size 64 rfl rfl rfl) ?_)
  simp only [List.setIfInBounds_toArray, List.set_cons_zero, List.set_cons_succ]
  refine wpList_nil ?_
  refine then_n (hK13 _ _ ?_)
  refine cond_dt (¬ s.size = 64) rfl h ?_
  refine wp_seq_k (fun K14 hK14 => ?_)
  refine wp_region_lit ?_
  refine lst (wanted_none rfl) (w_value 10 (.agg (bs 0)) rfl (by unfold execOp; go_simp; rfl) ?_)
  simp only [List.setIfInBounds_toArray, List.set_cons_zero, List.set_cons_succ]
  refine lst (wanted_none rfl) (m_store 0 23 _ _ (bs 0) (old := bs 0) hm11 rfl rfl rfl rfl rfl (by rw [bs_sz]; exact info_b) ((bs_sz _).trans (bs_sz _).symm) (bs_one _) (fun w15 (hm16 : Mm w w15 [(g2, bs 0, 23), (g6, bs 0, 23), (g9, bs 0, 23)]) => ?_))
  refine lst (wanted_none rfl) (w_value 3 (.bool false) rfl (run_as rfl rfl) ?_)
  simp only [List.setIfInBounds_toArray, List.set_cons_zero, List.set_cons_succ]
  refine wpList_nil ?_
  refine then_n (hK14 _ _ ?_)
  refine wp_ret ?_
  refine then_r ?_
  exact ⟨rfl, .tuple #[.agg (bs 0), .bool false], res_ct rfl rfl (hm16.at 0 rfl) Try.underlying23 rfl (by rw [bs_sz]; exact info_b) rfl, ⟨rfl, hm16.below⟩⟩
set_option maxHeartbeats 4000000 in
set_option maxRecDepth 100000 in
theorem wide_yes (s : ByteArray) (h : s.size = 64) (w : World) : Calls Try.prog 8 #[.string s] w (fun e w' => e = .returned (.tuple #[.agg (bs (n64 s % LL)), .bool true]) ∧ Below w.heap.size w w') := by
  go_enter Try.func8, Try.ntmps8
  have hm0 := Mm.nil w
  refine wp_seq_k (fun K1 hK1 => ?_)
  refine wp_region_lit ?_
  refine lst (wanted_none rfl) (m_alloc (c := bs 0) (T := 23) hm0 2 rfl (al_N rfl) (fun g2 w3 (hm4 : Mm w w3 [(g2, bs 0, 23)]) => ?_))
  simp only [List.setIfInBounds_toArray, List.set_cons_zero, List.set_cons_succ]
  refine lst (wanted_none rfl) (w_value 3 (.bool false) rfl (run_as rfl rfl) ?_)
  simp only [List.setIfInBounds_toArray, List.set_cons_zero, List.set_cons_succ]
  refine wpList_nil ?_
  refine then_n (hK1 _ _ ?_)
  refine wp_seq_k (fun K5 hK5 => ?_)
  refine wp_region_lit ?_
  refine lst (wanted_none rfl) (m_alloc (c := bs 0) (T := 23) hm4 4 rfl (al_N rfl) (fun g6 w7 (hm8 : Mm w w7 [(g2, bs 0, 23), (g6, bs 0, 23)]) => ?_))
  simp only [List.setIfInBounds_toArray, List.set_cons_zero, List.set_cons_succ]
  refine lst (wanted_none rfl) (m_alloc (c := bs 0) (T := 23) hm8 5 rfl (al_N rfl) (fun g9 w10 (hm11 : Mm w w10 [(g2, bs 0, 23), (g6, bs 0, 23), (g9, bs 0, 23)]) => ?_))
  simp only [List.setIfInBounds_toArray, List.set_cons_zero, List.set_cons_succ]
  refine wpList_nil ?_
  refine then_n (hK5 _ _ ?_)
  refine wp_seq_k (fun K12 hK12 => ?_)
  refine wp_seq_k (fun K13 hK13 => ?_)
  refine wp_region_lit ?_
  refine lst (wanted_none rfl) (w_value 7 (.string s) rfl (run_mv rfl rfl) ?_)
  simp only [List.setIfInBounds_toArray, List.set_cons_zero, List.set_cons_succ]
  refine lst (wanted_none rfl) (w_value 8 (.int .i64 ((s.size : Nat) : Int)) rfl (r_len rfl Try.underlying9 rfl) ?_)
  simp only [List.setIfInBounds_toArray, List.set_cons_zero, List.set_cons_succ]
  refine lst (wanted_none rfl) (w_value 9 (.bool (decide (¬ s.size = 64))) rfl (r_neq s.size 64 rfl rfl rfl) ?_)
  simp only [List.setIfInBounds_toArray, List.set_cons_zero, List.set_cons_succ]
  refine wpList_nil ?_
  refine then_n (hK13 _ _ ?_)
  refine cond_df (¬ s.size = 64) rfl (fun hn => hn h) ?_
  refine wp_skip ?_
  refine then_n (hK12 _ _ ?_)
  refine wp_seq_k (fun K14 hK14 => ?_)
  refine wp_seq_k (fun K15 hK15 => ?_)
  refine wp_region_lit ?_
  refine lst (wanted_none rfl) (w_value 11 (.int .i64 0) rfl (run_mv rfl rfl) ?_)
  simp only [List.setIfInBounds_toArray, List.set_cons_zero, List.set_cons_succ]
  refine wpList_nil ?_
  have hm16 : Mm w w10 [(g2, bs 0, 23), (g6, rowOf .u8 (pb (sb s) 0) 32, 23), (g9, bs 0, 23)] := by rw [show (rowOf .u8 (pb (sb s) 0) 32 : Array Value) = bs 0 from pb_none _]; exact hm11
  have hm17 : Mm w w10 [(g2, bs 0, 23), (g6, rowOf .u8 (pb (sb s) 0) 32, 23), (g9, rowOf .u8 (pb (fun j => sb s (32 + j)) 0) 32, 23)] := by rw [show (rowOf .u8 (pb (fun j => sb s (32 + j)) 0) 32 : Array Value) = bs 0 from pb_none _]; exact hm16
  refine then_n (hK15 _ _ ?_)
  refine wp_block ?_
  refine wp_loop_n (fun n' a' w' => ∃ (k : Nat) (u0 : Nat → Value), n' = 32 - k ∧ (k ≤ 32) ∧ a' = ⟨#[.string s, undef, .pointer (some ⟨g2, 0, none⟩), .bool false, .pointer (some ⟨g6, 0, none⟩), .pointer (some ⟨g9, 0, none⟩), u0 0, .string s, .int .i64 ((s.size : Nat) : Int), .bool (decide (¬ s.size = 64)), undef, .int .i64 ((k : Nat) : Int), u0 1, u0 2, u0 3, u0 4, u0 5, u0 6, u0 7, u0 8, u0 9, u0 10, u0 11, u0 12, u0 13, u0 14, undef, undef, undef, undef, undef, undef], []⟩ ∧ Mm w w' [(g2, bs 0, 23), (g6, rowOf .u8 (pb (sb s) k) 32, 23), (g9, rowOf .u8 (pb (fun j => sb s (32 + j)) k) 32, 23)]) ⟨0, (fun qq => List.getD [undef, undef, undef, undef, undef, undef, undef, undef, undef, undef, undef, undef, undef, undef, undef] qq undef), rfl, (by omega), rfl, hm17⟩ ?_
  clear hm17
  rintro _ _ w18 ⟨k, u0, hn0, hk, rfl, hm19⟩ R20 hR20
  refine wp_seq_k (fun K21 hK21 => ?_)
  refine wp_region_lit ?_
  refine lst (wanted_none rfl) (w_value 12 (.bool (decide (k < 32))) rfl (r_lss k 32 rfl rfl rfl) ?_)
  simp only [List.setIfInBounds_toArray, List.set_cons_zero, List.set_cons_succ]
  refine wpList_nil ?_
  refine then_n (hK21 _ _ ?_)
  refine wp_seq_k (fun K22 hK22 => ?_)
  refine cond_d (k < 32) rfl (fun hc23 => ?_) (fun hc23 => ?_)
  · refine wp_skip ?_
    refine then_n (hK22 _ _ ?_)
    refine wp_seq_k (fun K24 hK24 => ?_)
    refine wp_block ?_
    refine wp_seq_k (fun K25 hK25 => ?_)
    refine wp_region_lit ?_
    refine lst (wanted_none rfl) (w_value 13 (.int .i64 ((k : Nat) : Int)) rfl (run_mv rfl rfl) ?_)
    simp only [List.setIfInBounds_toArray, List.set_cons_zero, List.set_cons_succ]
    refine lst (wanted_none rfl) (w_value 6 (.int .i64 ((k : Nat) : Int)) rfl (run_as rfl rfl) ?_)
    simp only [List.setIfInBounds_toArray, List.set_cons_zero, List.set_cons_succ]
    refine wpList_nil ?_
    refine then_n (hK25 _ _ ?_)
    refine wp_seq_k (fun K26 hK26 => ?_)
    refine wp_region_lit ?_
    refine lst (wanted_none rfl) (w_value 14 (.int .i64 ((k : Nat) : Int)) rfl (run_mv rfl rfl) ?_)
    simp only [List.setIfInBounds_toArray, List.set_cons_zero, List.set_cons_succ]
    refine lst (wanted_none rfl) (w_value 15 (.string s) rfl (run_mv rfl rfl) ?_)
    simp only [List.setIfInBounds_toArray, List.set_cons_zero, List.set_cons_succ]
    refine lst (wanted_none rfl) (w_value 16 (.int .i64 ((k : Nat) : Int)) rfl (run_mv rfl rfl) ?_)
    simp only [List.setIfInBounds_toArray, List.set_cons_zero, List.set_cons_succ]
    refine lst (wanted_none rfl) (w_value 17 (.int .u8 (((sb s k) : Nat) : Int)) rfl (r_char k (sb s k) (by omega) (sb_at s k _) Try.underlying9 rfl rfl rfl) ?_)
    simp only [List.setIfInBounds_toArray, List.set_cons_zero, List.set_cons_succ]
    refine lst (wanted_none rfl) (w_value 18 (.pointer (some ⟨g6, k, none⟩)) rfl (r_ix g6 k (by omega) Try.underlying23 one_u8 rfl rfl rfl) ?_)
    simp only [List.setIfInBounds_toArray, List.set_cons_zero, List.set_cons_succ]
    refine lst (wanted_none rfl) (m_put 1 (new := rowOf .u8 (up (pb (sb s) k) k (sb s k)) 32) k (.int .u8 (((sb s k) : Nat) : Int)) (old := rowOf .u8 (pb (sb s) k) 32) hm19 rfl rfl (p_cell (n := 32) (f := (pb (sb s) k)) g6 k (sb s k) (by omega) (hm19.at 1 rfl) rfl one_u8 rfl rfl) (rowOf_set _ _ _ _ _) (fun w27 (hm28 : Mm w w27 [(g2, bs 0, 23), (g6, rowOf .u8 (up (pb (sb s) k) k (sb s k)) 32, 23), (g9, rowOf .u8 (pb (fun j => sb s (32 + j)) k) 32, 23)]) => ?_))
    refine wpList_nil ?_
    have hm29 : Mm w w27 [(g2, bs 0, 23), (g6, rowOf .u8 (pb (sb s) (k + 1)) 32, 23), (g9, rowOf .u8 (pb (fun j => sb s (32 + j)) k) 32, 23)] := by rw [show (rowOf .u8 (pb (sb s) (k + 1)) 32 : Array Value) = rowOf .u8 (up (pb (sb s) k) k (sb s k)) 32 from by rw [pb_up]]; exact hm28
    refine then_n (hK26 _ _ ?_)
    refine wp_region_lit ?_
    refine lst (wanted_none rfl) (w_value 19 (.int .i64 ((k : Nat) : Int)) rfl (run_mv rfl rfl) ?_)
    simp only [List.setIfInBounds_toArray, List.set_cons_zero, List.set_cons_succ]
    refine lst (wanted_none rfl) (w_value 20 (.string s) rfl (run_mv rfl rfl) ?_)
    simp only [List.setIfInBounds_toArray, List.set_cons_zero, List.set_cons_succ]
    refine lst (wanted_none rfl) (w_value 21 (.int .i64 ((k : Nat) : Int)) rfl (run_mv rfl rfl) ?_)
    simp only [List.setIfInBounds_toArray, List.set_cons_zero, List.set_cons_succ]
    refine lst (wanted_none rfl) (w_value 22 (.int .i64 (((32 + k) : Nat) : Int)) rfl (r_add 32 k (show (32 + k) < 9223372036854775808 from by omega) rfl rfl rfl) ?_)
    simp only [List.setIfInBounds_toArray, List.set_cons_zero, List.set_cons_succ]
    refine lst (wanted_none rfl) (w_value 23 (.int .u8 (((sb s (32 + k)) : Nat) : Int)) rfl (r_char (32 + k) (sb s (32 + k)) (by omega) (sb_at s (32 + k) _) Try.underlying9 rfl rfl rfl) ?_)
    simp only [List.setIfInBounds_toArray, List.set_cons_zero, List.set_cons_succ]
    refine lst (wanted_none rfl) (w_value 24 (.pointer (some ⟨g9, k, none⟩)) rfl (r_ix g9 k (by omega) Try.underlying23 one_u8 rfl rfl rfl) ?_)
    simp only [List.setIfInBounds_toArray, List.set_cons_zero, List.set_cons_succ]
    refine lst (wanted_none rfl) (m_put 2 (new := rowOf .u8 (up (pb (fun j => sb s (32 + j)) k) k (sb s (32 + k))) 32) k (.int .u8 (((sb s (32 + k)) : Nat) : Int)) (old := rowOf .u8 (pb (fun j => sb s (32 + j)) k) 32) hm29 rfl rfl (p_cell (n := 32) (f := (pb (fun j => sb s (32 + j)) k)) g9 k (sb s (32 + k)) (by omega) (hm29.at 2 rfl) rfl one_u8 rfl rfl) (rowOf_set _ _ _ _ _) (fun w30 (hm31 : Mm w w30 [(g2, bs 0, 23), (g6, rowOf .u8 (pb (sb s) (k + 1)) 32, 23), (g9, rowOf .u8 (up (pb (fun j => sb s (32 + j)) k) k (sb s (32 + k))) 32, 23)]) => ?_))
    refine wpList_nil ?_
    have hm32 : Mm w w30 [(g2, bs 0, 23), (g6, rowOf .u8 (pb (sb s) (k + 1)) 32, 23), (g9, rowOf .u8 (pb (fun j => sb s (32 + j)) (k + 1)) 32, 23)] := by rw [show (rowOf .u8 (pb (fun j => sb s (32 + j)) (k + 1)) 32 : Array Value) = rowOf .u8 (up (pb (fun j => sb s (32 + j)) k) k (sb s (32 + k))) 32 from by rw [← pb_up]]; exact hm31
    refine blk_n ?_
    refine then_n (hK24 _ _ ?_)
    refine wp_region_lit ?_
    refine lst (wanted_none rfl) (w_value 25 (.int .i64 (((k + 1) : Nat) : Int)) rfl (r_add k 1 (show (k + 1) < 9223372036854775808 from by omega) rfl rfl rfl) ?_)
    simp only [List.setIfInBounds_toArray, List.set_cons_zero, List.set_cons_succ]
    refine lst (wanted_none rfl) (w_value 11 (.int .i64 (((k + 1) : Nat) : Int)) rfl (run_mv rfl rfl) ?_)
    simp only [List.setIfInBounds_toArray, List.set_cons_zero, List.set_cons_succ]
    refine wpList_nil ?_
    refine then_n (hR20 _ _ _ ⟨(k + 1), (fun qq => List.getD [.int .i64 ((k : Nat) : Int), .bool (decide (k < 32)), .int .i64 ((k : Nat) : Int), .int .i64 ((k : Nat) : Int), .string s, .int .i64 ((k : Nat) : Int), .int .u8 (((sb s k) : Nat) : Int), .pointer (some ⟨g6, k, none⟩), .int .i64 ((k : Nat) : Int), .string s, .int .i64 ((k : Nat) : Int), .int .i64 (((32 + k) : Nat) : Int), .int .u8 (((sb s (32 + k)) : Nat) : Int), .pointer (some ⟨g9, k, none⟩), .int .i64 (((k + 1) : Nat) : Int)] qq undef), rfl, (by omega), rfl, hm32⟩ ?_)
    omega
  · obtain rfl : k = 32 := by omega
    have hm33 : Mm w w18 [(g2, bs 0, 23), (g6, bs (lo32 s), 23), (g9, rowOf .u8 (pb (fun j => sb s (32 + j)) 32) 32, 23)] := by rw [show (bs (lo32 s) : Array Value) = rowOf .u8 (pb (sb s) 32) 32 from pb_lo s]; exact hm19
    have hm34 : Mm w w18 [(g2, bs 0, 23), (g6, bs (lo32 s), 23), (g9, bs (hi32 s), 23)] := by rw [show (bs (hi32 s) : Array Value) = rowOf .u8 (pb (fun j => sb s (32 + j)) 32) 32 from pb_hi s]; exact hm33
    refine wp_exit ?_
    refine then_x ?_
    refine then_x ?_
    refine blk_x ?_
    refine then_n (hK14 _ _ ?_)
    refine wp_seq_k (fun K35 hK35 => ?_)
    have hm36 := hm34.drew
    refine wp_region_held_drew (S := fun w' => Sym.Blk w' g6 (bs (lo32 s)) 23 ∧ Sym.Blk w' g9 (bs (hi32 s)) 23) (by kernel_rfl) (⟨hm34.at 1 rfl, hm34.at 2 rfl⟩) (fun _ => ?_)
    generalize w18.drew = w37 at *
    refine Sym.take_at 0 26 (.agg (bs (lo32 s))) rfl rfl (by kernel_rfl) (by kernel_rfl) (by kernel_rfl) (fun _ _ _ h => h) (wanted_none rfl) (fun _ hw => run_row rfl rfl hw.1 Try.underlying23 rfl (by rw [bs_sz]; exact info_b)) (⟨hm36.at 1 rfl, hm36.at 2 rfl⟩) ?_
    simp only [List.setIfInBounds_toArray, List.set_cons_zero, List.set_cons_succ]
    refine Sym.take_at 2 28 (.agg (bs (hi32 s))) rfl rfl (by kernel_rfl) (by kernel_rfl) (by kernel_rfl) (fun _ _ _ h => h) (wanted_none rfl) (fun _ hw => run_row rfl rfl hw.2 Try.underlying23 rfl (by rw [bs_sz]; exact info_b)) (⟨hm36.at 1 rfl, hm36.at 2 rfl⟩) ?_
    simp only [List.setIfInBounds_toArray, List.set_cons_zero, List.set_cons_succ]
    refine one_ready 1 (by kernel_rfl) ?_
    refine opd rfl (wanted_none rfl) (m_call hm36 27 (.agg (ws (lo32 s))) rfl (run_load rfl rfl) (load_any (lo32 s) _) (fun w38 hm39 => ?_))
    refine ⟨⟨hm39.at 1 rfl, hm39.at 2 rfl⟩, ?_⟩
    simp only [List.setIfInBounds_toArray, List.set_cons_zero, List.set_cons_succ]
    refine one_ready 3 (by kernel_rfl) ?_
    refine opd rfl (wanted_none rfl) (m_call hm39 29 (.agg (ws (hi32 s))) rfl (run_load rfl rfl) (load_any (hi32 s) _) (fun w40 hm41 => ?_))
    refine ⟨⟨hm41.at 1 rfl, hm41.at 2 rfl⟩, ?_⟩
    simp only [List.setIfInBounds_toArray, List.set_cons_zero, List.set_cons_succ]
    refine one_ready 4 (by kernel_rfl) ?_
    refine opd rfl (wanted_none rfl) (m_call hm41 30 (.agg (ws (((lo32 s) + MM * (hi32 s)) % LL))) rfl (run_rest rfl rfl rfl) (rest_any (lo32 s) (hi32 s) (lo32_lt s) (hi32_lt s) _) (fun w42 hm43 => ?_))
    refine ⟨⟨hm43.at 1 rfl, hm43.at 2 rfl⟩, ?_⟩
    simp only [List.setIfInBounds_toArray, List.set_cons_zero, List.set_cons_succ]
    refine one_ready 5 (by kernel_rfl) ?_
    refine opd rfl (wanted_none rfl) (m_call hm43 31 (.agg (bs (((lo32 s) + MM * (hi32 s)) % LL))) rfl (run_store rfl rfl) (store_any (((lo32 s) + MM * (hi32 s)) % LL) _) (fun w44 hm45 => ?_))
    refine ⟨⟨hm45.at 1 rfl, hm45.at 2 rfl⟩, ?_⟩
    simp only [List.setIfInBounds_toArray, List.set_cons_zero, List.set_cons_succ]
    refine one_ready 6 (by kernel_rfl) ?_
    refine opd rfl (wanted_none rfl) (m_store 0 23 _ _ (bs (((lo32 s) + MM * (hi32 s)) % LL)) (old := bs 0) hm45 rfl rfl rfl rfl rfl (by rw [bs_sz]; exact info_b) ((bs_sz _).trans (bs_sz _).symm) (bs_one _) (fun w46 (hm47 : Mm w w46 [(g2, bs (((lo32 s) + MM * (hi32 s)) % LL), 23), (g6, bs (lo32 s), 23), (g9, bs (hi32 s), 23)]) => ?_))
    refine ⟨⟨hm47.at 1 rfl, hm47.at 2 rfl⟩, ?_⟩
    refine one_ready 7 (by kernel_rfl) ?_
    refine opd rfl (wanted_none rfl) (w_value 3 (.bool true) rfl (run_as rfl rfl) ⟨⟨hm47.at 1 rfl, hm47.at 2 rfl⟩, ?_⟩)
    simp only [List.setIfInBounds_toArray, List.set_cons_zero, List.set_cons_succ]
    refine wpAnyH_done (by kernel_rfl) ?_ _
    refine then_n (hK35 _ _ ?_)
    refine wp_ret ?_
    exact ⟨rfl, .tuple #[.agg (bs (((lo32 s) + MM * (hi32 s)) % LL)), .bool true], res_ct rfl rfl (hm47.at 0 rfl) Try.underlying23 rfl (by rw [bs_sz]; exact info_b) rfl, ⟨by rw [n64_eq], hm47.below⟩⟩
end Go.Proofs.Ytcemcnbhnedaaaa.Fld
