/- Layer 4, the document's answers: products and sums. -/
import Derived.Test.YtcemcnbhnedaaaaScF
import Derived.Test.YtcemcnbhnedaaaaScC
namespace Go.Proofs.Ytcemcnbhnedaaaa.Fld
open Go.RowKit Go.Shelf
open Go.Proofs.Ytcemcnbhnedaaaa.Num (val up val_congr val_add val_lt val_up val_digits val_word)
open Go.Proofs.Ytcemcnbhnedaaaa.Arr Go.Proofs.Ytcemcnbhnedaaaa.Sym Go.Proofs.Ytcemcnbhnedaaaa.Sx

theorem e1 {α : Type} (l : List α) (i : Nat) (a : α) : l.toArray.setIfInBounds i a = (l.set i a).toArray := List.setIfInBounds_toArray _ _ _
theorem e2 {α : Type} (a b : α) (l : List α) : (a :: l).set 0 b = b :: l := rfl
theorem e3 {α : Type} (a b : α) (l : List α) (n : Nat) : (a :: l).set (n + 1) b = a :: l.set n b := rfl
set_option maxHeartbeats 8000000 in
set_option maxRecDepth 100000 in
theorem rfuse_any (a b c : Nat) (ha : a < MM) (hb : b < MM) (hc : c < MM) (w : World) : Calls Try.prog 14 #[.agg (bs a), .agg (bs b), .agg (bs c)] w (fun e w' => e = .returned (.agg (bs ((a * b + c) % LL))) ∧ Below w.heap.size w w') := by
  go_enter Try.func14, Try.ntmps14
  have hm0 := Mm.nil w
  refine wp_seq_k (fun K1 hK1 => ?_)
  refine wp_region_lit ?_
  refine lst (wanted_none rfl) (m_alloc (c := bs a) (T := 23) hm0 3 rfl (run_box rfl rfl) (fun g2 w3 (hm4 : Mm w w3 [(g2, bs a, 23)]) => ?_))
  simp only [e1, e2, e3]
  refine lst (wanted_none rfl) (m_alloc (c := bs b) (T := 23) hm4 4 rfl (run_box rfl rfl) (fun g5 w6 (hm7 : Mm w w6 [(g2, bs a, 23), (g5, bs b, 23)]) => ?_))
  simp only [e1, e2, e3]
  refine lst (wanted_none rfl) (m_alloc (c := bs c) (T := 23) hm7 5 rfl (run_box rfl rfl) (fun g8 w9 (hm10 : Mm w w9 [(g2, bs a, 23), (g5, bs b, 23), (g8, bs c, 23)]) => ?_))
  simp only [e1, e2, e3]
  refine lst (wanted_none rfl) (m_alloc (c := bs 0) (T := 23) hm10 6 rfl (al_N rfl) (fun g11 w12 (hm13 : Mm w w12 [(g2, bs a, 23), (g5, bs b, 23), (g8, bs c, 23), (g11, bs 0, 23)]) => ?_))
  simp only [e1, e2, e3]
  refine wpList_nil ?_
  refine then_n (hK1 _ _ ?_)
  refine wp_seq_k (fun K14 hK14 => ?_)
  refine wp_mono (Q := fun e a' w' => e = Exit.normal ∧ ∃ g23 g26 g29 : Nat, a' = ⟨#[.agg (bs a), .agg (bs b), .agg (bs c), .pointer (some ⟨g2, 0, none⟩), .pointer (some ⟨g5, 0, none⟩), .pointer (some ⟨g8, 0, none⟩), .pointer (some ⟨g11, 0, none⟩), .pointer (some ⟨g23, 0, none⟩), .pointer (some ⟨g26, 0, none⟩), .pointer (some ⟨g29, 0, none⟩), undef, undef, undef, undef, undef, undef, undef, undef, undef, undef, undef, undef, undef, undef, .agg (bs a), .agg (ws a), .agg (bs b), .agg (ws b), .agg (bs c), .agg (ws c), undef, undef, undef, undef, undef, undef, undef, undef, undef, undef, undef, undef, undef, undef, undef, undef, undef, undef, undef, undef, undef, undef, undef, undef, undef, undef, undef, undef, undef, undef, undef, undef, undef, undef, undef, undef, undef, undef, undef, undef, undef, undef, undef, undef, undef, undef, undef, undef, undef, undef, undef, undef, undef, undef, undef, undef, undef, undef, undef, undef, undef, undef, undef, undef, undef, undef, undef, undef, undef, undef, undef, undef, undef, undef], []⟩ ∧ Mm w w' [(g2, bs a, 23), (g5, bs b, 23), (g8, bs c, 23), (g11, bs 0, 23), (g23, ws a, 36), (g26, ws b, 36), (g29, ws c, 36)]) ?_ ?_
  · have hm15 := hm13.drew
    refine wp_region_held_drew (S := fun w' => Sym.Blk w' g2 (bs a) 23 ∧ Sym.Blk w' g5 (bs b) 23 ∧ Sym.Blk w' g8 (bs c) 23) (by kernel_rfl) (⟨hm13.at 0 rfl, hm13.at 1 rfl, hm13.at 2 rfl⟩) (fun _ => ?_)
    generalize w12.drew = w16 at *
    refine Sym.take_at 0 24 (.agg (bs a)) rfl rfl (by kernel_rfl) (by kernel_rfl) (by kernel_rfl) (fun _ _ _ h => nomatch h.1) rfl (fun _ hw => run_row rfl rfl hw.1 Try.underlying23 rfl (by rw [bs_sz]; exact info_b)) (⟨hm15.at 0 rfl, hm15.at 1 rfl, hm15.at 2 rfl⟩) ?_
    simp only [e1, e2, e3]
    refine Sym.take_at 2 26 (.agg (bs b)) rfl rfl (by kernel_rfl) (by kernel_rfl) (by kernel_rfl) (fun _ _ _ h => nomatch h.1) rfl (fun _ hw => run_row rfl rfl hw.2.1 Try.underlying23 rfl (by rw [bs_sz]; exact info_b)) (⟨hm15.at 0 rfl, hm15.at 1 rfl, hm15.at 2 rfl⟩) ?_
    simp only [e1, e2, e3]
    refine Sym.take_at 4 28 (.agg (bs c)) rfl rfl (by kernel_rfl) (by kernel_rfl) (by kernel_rfl) (fun _ _ _ h => nomatch h.1) rfl (fun _ hw => run_row rfl rfl hw.2.2 Try.underlying23 rfl (by rw [bs_sz]; exact info_b)) (⟨hm15.at 0 rfl, hm15.at 1 rfl, hm15.at 2 rfl⟩) ?_
    simp only [e1, e2, e3]
    refine four_ready 1 6 7 8 (by kernel_rfl) ?_ ?_ ?_ ?_
    · refine opd rfl rfl (m_call hm15 25 (.agg (ws a)) rfl (run_rwords rfl rfl) (rwords_any a _) (fun w17 hm18 => ?_))
      refine ⟨⟨hm18.at 0 rfl, hm18.at 1 rfl, hm18.at 2 rfl⟩, ?_⟩
      simp only [e1, e2, e3]
      refine four_ready 3 6 7 8 (by kernel_rfl) ?_ ?_ ?_ ?_
      · refine opd rfl rfl (m_call hm18 27 (.agg (ws b)) rfl (run_rwords rfl rfl) (rwords_any b _) (fun w19 hm20 => ?_))
        refine ⟨⟨hm20.at 0 rfl, hm20.at 1 rfl, hm20.at 2 rfl⟩, ?_⟩
        simp only [e1, e2, e3]
        refine four_ready 5 6 7 8 (by kernel_rfl) ?_ ?_ ?_ ?_
        · refine opd rfl rfl (m_call hm20 29 (.agg (ws c)) rfl (run_rwords rfl rfl) (rwords_any c _) (fun w21 hm22 => ?_))
          refine ⟨⟨hm22.at 0 rfl, hm22.at 1 rfl, hm22.at 2 rfl⟩, ?_⟩
          simp only [e1, e2, e3]
          refine three_ready 6 7 8 (by kernel_rfl) ?_ ?_ ?_
          · refine opd rfl rfl (m_alloc (c := ws 0) (T := 36) hm22 7 rfl (al_X rfl) (fun g23 w24 hm25 => ?_))
            refine ⟨⟨hm25.at 0 rfl, hm25.at 1 rfl, hm25.at 2 rfl⟩, ?_⟩
            simp only [e1, e2, e3]
            refine two_ready 7 8 (by kernel_rfl) ?_ ?_
            · refine opd rfl rfl (m_alloc (c := ws 0) (T := 36) hm25 8 rfl (al_X rfl) (fun g26 w27 hm28 => ?_))
              refine ⟨⟨hm28.at 0 rfl, hm28.at 1 rfl, hm28.at 2 rfl⟩, ?_⟩
              simp only [e1, e2, e3]
              refine one_ready 8 (by kernel_rfl) ?_
              refine opd rfl rfl (m_alloc (c := ws 0) (T := 36) hm28 9 rfl (al_X rfl) (fun g29 w30 hm31 => ?_))
              refine ⟨⟨hm31.at 0 rfl, hm31.at 1 rfl, hm31.at 2 rfl⟩, ?_⟩
              simp only [e1, e2, e3]
              refine one_ready 9 (by kernel_rfl) ?_
              refine opd rfl rfl (m_store 4 36 _ _ (ws a) (old := ws 0) hm31 rfl rfl rfl rfl rfl (by rw [ws_sz]; exact info_x) ((ws_sz _).trans (ws_sz _).symm) (ws_one _) (fun w32 hm33 => ?_))
              refine ⟨⟨hm33.at 0 rfl, hm33.at 1 rfl, hm33.at 2 rfl⟩, ?_⟩
              refine one_ready 10 (by kernel_rfl) ?_
              refine opd rfl rfl (m_store 5 36 _ _ (ws b) (old := ws 0) hm33 rfl rfl rfl rfl rfl (by rw [ws_sz]; exact info_x) ((ws_sz _).trans (ws_sz _).symm) (ws_one _) (fun w34 hm35 => ?_))
              refine ⟨⟨hm35.at 0 rfl, hm35.at 1 rfl, hm35.at 2 rfl⟩, ?_⟩
              refine one_ready 11 (by kernel_rfl) ?_
              refine opd rfl rfl (m_store 6 36 _ _ (ws c) (old := ws 0) hm35 rfl rfl rfl rfl rfl (by rw [ws_sz]; exact info_x) ((ws_sz _).trans (ws_sz _).symm) (ws_one _) (fun w36 hm37 => ?_))
              refine ⟨⟨hm37.at 0 rfl, hm37.at 1 rfl, hm37.at 2 rfl⟩, ?_⟩
              refine wpAnyH_done (by kernel_rfl) ?_ _
              exact ⟨rfl, g23, g26, g29, rfl, hm37⟩
            · refine opd rfl rfl (m_alloc (c := ws 0) (T := 36) hm25 9 rfl (al_X rfl) (fun g38 w39 hm40 => ?_))
              refine ⟨⟨hm40.at 0 rfl, hm40.at 1 rfl, hm40.at 2 rfl⟩, ?_⟩
              simp only [e1, e2, e3]
              refine one_ready 7 (by kernel_rfl) ?_
              refine opd rfl rfl (m_alloc (c := ws 0) (T := 36) hm40 8 rfl (al_X rfl) (fun g41 w42 hm43 => ?_))
              refine ⟨⟨hm43.at 0 rfl, hm43.at 1 rfl, hm43.at 2 rfl⟩, ?_⟩
              simp only [e1, e2, e3]
              refine one_ready 9 (by kernel_rfl) ?_
              refine opd rfl rfl (m_store 4 36 _ _ (ws a) (old := ws 0) hm43 rfl rfl rfl rfl rfl (by rw [ws_sz]; exact info_x) ((ws_sz _).trans (ws_sz _).symm) (ws_one _) (fun w44 hm45 => ?_))
              refine ⟨⟨hm45.at 0 rfl, hm45.at 1 rfl, hm45.at 2 rfl⟩, ?_⟩
              refine one_ready 10 (by kernel_rfl) ?_
              refine opd rfl rfl (m_store 6 36 _ _ (ws b) (old := ws 0) hm45 rfl rfl rfl rfl rfl (by rw [ws_sz]; exact info_x) ((ws_sz _).trans (ws_sz _).symm) (ws_one _) (fun w46 hm47 => ?_))
              refine ⟨⟨hm47.at 0 rfl, hm47.at 1 rfl, hm47.at 2 rfl⟩, ?_⟩
              refine one_ready 11 (by kernel_rfl) ?_
              refine opd rfl rfl (m_store 5 36 _ _ (ws c) (old := ws 0) hm47 rfl rfl rfl rfl rfl (by rw [ws_sz]; exact info_x) ((ws_sz _).trans (ws_sz _).symm) (ws_one _) (fun w48 hm49 => ?_))
              refine ⟨⟨hm49.at 0 rfl, hm49.at 1 rfl, hm49.at 2 rfl⟩, ?_⟩
              refine wpAnyH_done (by kernel_rfl) ?_ _
              exact ⟨rfl, g23, g41, g38, rfl, (Mm.reorder hm49 [0, 1, 2, 3, 4, 6, 5] (by decide) rfl)⟩
          · refine opd rfl rfl (m_alloc (c := ws 0) (T := 36) hm22 8 rfl (al_X rfl) (fun g50 w51 hm52 => ?_))
            refine ⟨⟨hm52.at 0 rfl, hm52.at 1 rfl, hm52.at 2 rfl⟩, ?_⟩
            simp only [e1, e2, e3]
            refine two_ready 6 8 (by kernel_rfl) ?_ ?_
            · refine opd rfl rfl (m_alloc (c := ws 0) (T := 36) hm52 7 rfl (al_X rfl) (fun g53 w54 hm55 => ?_))
              refine ⟨⟨hm55.at 0 rfl, hm55.at 1 rfl, hm55.at 2 rfl⟩, ?_⟩
              simp only [e1, e2, e3]
              refine one_ready 8 (by kernel_rfl) ?_
              refine opd rfl rfl (m_alloc (c := ws 0) (T := 36) hm55 9 rfl (al_X rfl) (fun g56 w57 hm58 => ?_))
              refine ⟨⟨hm58.at 0 rfl, hm58.at 1 rfl, hm58.at 2 rfl⟩, ?_⟩
              simp only [e1, e2, e3]
              refine one_ready 9 (by kernel_rfl) ?_
              refine opd rfl rfl (m_store 5 36 _ _ (ws a) (old := ws 0) hm58 rfl rfl rfl rfl rfl (by rw [ws_sz]; exact info_x) ((ws_sz _).trans (ws_sz _).symm) (ws_one _) (fun w59 hm60 => ?_))
              refine ⟨⟨hm60.at 0 rfl, hm60.at 1 rfl, hm60.at 2 rfl⟩, ?_⟩
              refine one_ready 10 (by kernel_rfl) ?_
              refine opd rfl rfl (m_store 4 36 _ _ (ws b) (old := ws 0) hm60 rfl rfl rfl rfl rfl (by rw [ws_sz]; exact info_x) ((ws_sz _).trans (ws_sz _).symm) (ws_one _) (fun w61 hm62 => ?_))
              refine ⟨⟨hm62.at 0 rfl, hm62.at 1 rfl, hm62.at 2 rfl⟩, ?_⟩
              refine one_ready 11 (by kernel_rfl) ?_
              refine opd rfl rfl (m_store 6 36 _ _ (ws c) (old := ws 0) hm62 rfl rfl rfl rfl rfl (by rw [ws_sz]; exact info_x) ((ws_sz _).trans (ws_sz _).symm) (ws_one _) (fun w63 hm64 => ?_))
              refine ⟨⟨hm64.at 0 rfl, hm64.at 1 rfl, hm64.at 2 rfl⟩, ?_⟩
              refine wpAnyH_done (by kernel_rfl) ?_ _
              exact ⟨rfl, g53, g50, g56, rfl, (Mm.reorder hm64 [0, 1, 2, 3, 5, 4, 6] (by decide) rfl)⟩
            · refine opd rfl rfl (m_alloc (c := ws 0) (T := 36) hm52 9 rfl (al_X rfl) (fun g65 w66 hm67 => ?_))
              refine ⟨⟨hm67.at 0 rfl, hm67.at 1 rfl, hm67.at 2 rfl⟩, ?_⟩
              simp only [e1, e2, e3]
              refine one_ready 6 (by kernel_rfl) ?_
              refine opd rfl rfl (m_alloc (c := ws 0) (T := 36) hm67 7 rfl (al_X rfl) (fun g68 w69 hm70 => ?_))
              refine ⟨⟨hm70.at 0 rfl, hm70.at 1 rfl, hm70.at 2 rfl⟩, ?_⟩
              simp only [e1, e2, e3]
              refine one_ready 9 (by kernel_rfl) ?_
              refine opd rfl rfl (m_store 6 36 _ _ (ws a) (old := ws 0) hm70 rfl rfl rfl rfl rfl (by rw [ws_sz]; exact info_x) ((ws_sz _).trans (ws_sz _).symm) (ws_one _) (fun w71 hm72 => ?_))
              refine ⟨⟨hm72.at 0 rfl, hm72.at 1 rfl, hm72.at 2 rfl⟩, ?_⟩
              refine one_ready 10 (by kernel_rfl) ?_
              refine opd rfl rfl (m_store 4 36 _ _ (ws b) (old := ws 0) hm72 rfl rfl rfl rfl rfl (by rw [ws_sz]; exact info_x) ((ws_sz _).trans (ws_sz _).symm) (ws_one _) (fun w73 hm74 => ?_))
              refine ⟨⟨hm74.at 0 rfl, hm74.at 1 rfl, hm74.at 2 rfl⟩, ?_⟩
              refine one_ready 11 (by kernel_rfl) ?_
              refine opd rfl rfl (m_store 5 36 _ _ (ws c) (old := ws 0) hm74 rfl rfl rfl rfl rfl (by rw [ws_sz]; exact info_x) ((ws_sz _).trans (ws_sz _).symm) (ws_one _) (fun w75 hm76 => ?_))
              refine ⟨⟨hm76.at 0 rfl, hm76.at 1 rfl, hm76.at 2 rfl⟩, ?_⟩
              refine wpAnyH_done (by kernel_rfl) ?_ _
              exact ⟨rfl, g68, g50, g65, rfl, (Mm.reorder hm76 [0, 1, 2, 3, 6, 4, 5] (by decide) rfl)⟩
          · refine opd rfl rfl (m_alloc (c := ws 0) (T := 36) hm22 9 rfl (al_X rfl) (fun g77 w78 hm79 => ?_))
            refine ⟨⟨hm79.at 0 rfl, hm79.at 1 rfl, hm79.at 2 rfl⟩, ?_⟩
            simp only [e1, e2, e3]
            refine two_ready 6 7 (by kernel_rfl) ?_ ?_
            · refine opd rfl rfl (m_alloc (c := ws 0) (T := 36) hm79 7 rfl (al_X rfl) (fun g80 w81 hm82 => ?_))
              refine ⟨⟨hm82.at 0 rfl, hm82.at 1 rfl, hm82.at 2 rfl⟩, ?_⟩
              simp only [e1, e2, e3]
              refine one_ready 7 (by kernel_rfl) ?_
              refine opd rfl rfl (m_alloc (c := ws 0) (T := 36) hm82 8 rfl (al_X rfl) (fun g83 w84 hm85 => ?_))
              refine ⟨⟨hm85.at 0 rfl, hm85.at 1 rfl, hm85.at 2 rfl⟩, ?_⟩
              simp only [e1, e2, e3]
              refine one_ready 9 (by kernel_rfl) ?_
              refine opd rfl rfl (m_store 5 36 _ _ (ws a) (old := ws 0) hm85 rfl rfl rfl rfl rfl (by rw [ws_sz]; exact info_x) ((ws_sz _).trans (ws_sz _).symm) (ws_one _) (fun w86 hm87 => ?_))
              refine ⟨⟨hm87.at 0 rfl, hm87.at 1 rfl, hm87.at 2 rfl⟩, ?_⟩
              refine one_ready 10 (by kernel_rfl) ?_
              refine opd rfl rfl (m_store 6 36 _ _ (ws b) (old := ws 0) hm87 rfl rfl rfl rfl rfl (by rw [ws_sz]; exact info_x) ((ws_sz _).trans (ws_sz _).symm) (ws_one _) (fun w88 hm89 => ?_))
              refine ⟨⟨hm89.at 0 rfl, hm89.at 1 rfl, hm89.at 2 rfl⟩, ?_⟩
              refine one_ready 11 (by kernel_rfl) ?_
              refine opd rfl rfl (m_store 4 36 _ _ (ws c) (old := ws 0) hm89 rfl rfl rfl rfl rfl (by rw [ws_sz]; exact info_x) ((ws_sz _).trans (ws_sz _).symm) (ws_one _) (fun w90 hm91 => ?_))
              refine ⟨⟨hm91.at 0 rfl, hm91.at 1 rfl, hm91.at 2 rfl⟩, ?_⟩
              refine wpAnyH_done (by kernel_rfl) ?_ _
              exact ⟨rfl, g80, g83, g77, rfl, (Mm.reorder hm91 [0, 1, 2, 3, 5, 6, 4] (by decide) rfl)⟩
            · refine opd rfl rfl (m_alloc (c := ws 0) (T := 36) hm79 8 rfl (al_X rfl) (fun g92 w93 hm94 => ?_))
              refine ⟨⟨hm94.at 0 rfl, hm94.at 1 rfl, hm94.at 2 rfl⟩, ?_⟩
              simp only [e1, e2, e3]
              refine one_ready 6 (by kernel_rfl) ?_
              refine opd rfl rfl (m_alloc (c := ws 0) (T := 36) hm94 7 rfl (al_X rfl) (fun g95 w96 hm97 => ?_))
              refine ⟨⟨hm97.at 0 rfl, hm97.at 1 rfl, hm97.at 2 rfl⟩, ?_⟩
              simp only [e1, e2, e3]
              refine one_ready 9 (by kernel_rfl) ?_
              refine opd rfl rfl (m_store 6 36 _ _ (ws a) (old := ws 0) hm97 rfl rfl rfl rfl rfl (by rw [ws_sz]; exact info_x) ((ws_sz _).trans (ws_sz _).symm) (ws_one _) (fun w98 hm99 => ?_))
              refine ⟨⟨hm99.at 0 rfl, hm99.at 1 rfl, hm99.at 2 rfl⟩, ?_⟩
              refine one_ready 10 (by kernel_rfl) ?_
              refine opd rfl rfl (m_store 5 36 _ _ (ws b) (old := ws 0) hm99 rfl rfl rfl rfl rfl (by rw [ws_sz]; exact info_x) ((ws_sz _).trans (ws_sz _).symm) (ws_one _) (fun w100 hm101 => ?_))
              refine ⟨⟨hm101.at 0 rfl, hm101.at 1 rfl, hm101.at 2 rfl⟩, ?_⟩
              refine one_ready 11 (by kernel_rfl) ?_
              refine opd rfl rfl (m_store 4 36 _ _ (ws c) (old := ws 0) hm101 rfl rfl rfl rfl rfl (by rw [ws_sz]; exact info_x) ((ws_sz _).trans (ws_sz _).symm) (ws_one _) (fun w102 hm103 => ?_))
              refine ⟨⟨hm103.at 0 rfl, hm103.at 1 rfl, hm103.at 2 rfl⟩, ?_⟩
              refine wpAnyH_done (by kernel_rfl) ?_ _
              exact ⟨rfl, g95, g92, g77, rfl, (Mm.reorder hm103 [0, 1, 2, 3, 6, 5, 4] (by decide) rfl)⟩
        · refine opd rfl rfl (m_alloc (c := ws 0) (T := 36) hm20 7 rfl (al_X rfl) (fun g104 w105 hm106 => ?_))
          refine ⟨⟨hm106.at 0 rfl, hm106.at 1 rfl, hm106.at 2 rfl⟩, ?_⟩
          simp only [e1, e2, e3]
          refine three_ready 5 7 8 (by kernel_rfl) ?_ ?_ ?_
          · refine opd rfl rfl (m_call hm106 29 (.agg (ws c)) rfl (run_rwords rfl rfl) (rwords_any c _) (fun w107 hm108 => ?_))
            refine ⟨⟨hm108.at 0 rfl, hm108.at 1 rfl, hm108.at 2 rfl⟩, ?_⟩
            simp only [e1, e2, e3]
            refine two_ready 7 8 (by kernel_rfl) ?_ ?_
            · refine opd rfl rfl (m_alloc (c := ws 0) (T := 36) hm108 8 rfl (al_X rfl) (fun g109 w110 hm111 => ?_))
              refine ⟨⟨hm111.at 0 rfl, hm111.at 1 rfl, hm111.at 2 rfl⟩, ?_⟩
              simp only [e1, e2, e3]
              refine one_ready 8 (by kernel_rfl) ?_
              refine opd rfl rfl (m_alloc (c := ws 0) (T := 36) hm111 9 rfl (al_X rfl) (fun g112 w113 hm114 => ?_))
              refine ⟨⟨hm114.at 0 rfl, hm114.at 1 rfl, hm114.at 2 rfl⟩, ?_⟩
              simp only [e1, e2, e3]
              refine one_ready 9 (by kernel_rfl) ?_
              refine opd rfl rfl (m_store 4 36 _ _ (ws a) (old := ws 0) hm114 rfl rfl rfl rfl rfl (by rw [ws_sz]; exact info_x) ((ws_sz _).trans (ws_sz _).symm) (ws_one _) (fun w115 hm116 => ?_))
              refine ⟨⟨hm116.at 0 rfl, hm116.at 1 rfl, hm116.at 2 rfl⟩, ?_⟩
              refine one_ready 10 (by kernel_rfl) ?_
              refine opd rfl rfl (m_store 5 36 _ _ (ws b) (old := ws 0) hm116 rfl rfl rfl rfl rfl (by rw [ws_sz]; exact info_x) ((ws_sz _).trans (ws_sz _).symm) (ws_one _) (fun w117 hm118 => ?_))
              refine ⟨⟨hm118.at 0 rfl, hm118.at 1 rfl, hm118.at 2 rfl⟩, ?_⟩
              refine one_ready 11 (by kernel_rfl) ?_
              refine opd rfl rfl (m_store 6 36 _ _ (ws c) (old := ws 0) hm118 rfl rfl rfl rfl rfl (by rw [ws_sz]; exact info_x) ((ws_sz _).trans (ws_sz _).symm) (ws_one _) (fun w119 hm120 => ?_))
              refine ⟨⟨hm120.at 0 rfl, hm120.at 1 rfl, hm120.at 2 rfl⟩, ?_⟩
              refine wpAnyH_done (by kernel_rfl) ?_ _
              exact ⟨rfl, g104, g109, g112, rfl, hm120⟩
            · refine opd rfl rfl (m_alloc (c := ws 0) (T := 36) hm108 9 rfl (al_X rfl) (fun g121 w122 hm123 => ?_))
              refine ⟨⟨hm123.at 0 rfl, hm123.at 1 rfl, hm123.at 2 rfl⟩, ?_⟩
              simp only [e1, e2, e3]
              refine one_ready 7 (by kernel_rfl) ?_
              refine opd rfl rfl (m_alloc (c := ws 0) (T := 36) hm123 8 rfl (al_X rfl) (fun g124 w125 hm126 => ?_))
              refine ⟨⟨hm126.at 0 rfl, hm126.at 1 rfl, hm126.at 2 rfl⟩, ?_⟩
              simp only [e1, e2, e3]
              refine one_ready 9 (by kernel_rfl) ?_
              refine opd rfl rfl (m_store 4 36 _ _ (ws a) (old := ws 0) hm126 rfl rfl rfl rfl rfl (by rw [ws_sz]; exact info_x) ((ws_sz _).trans (ws_sz _).symm) (ws_one _) (fun w127 hm128 => ?_))
              refine ⟨⟨hm128.at 0 rfl, hm128.at 1 rfl, hm128.at 2 rfl⟩, ?_⟩
              refine one_ready 10 (by kernel_rfl) ?_
              refine opd rfl rfl (m_store 6 36 _ _ (ws b) (old := ws 0) hm128 rfl rfl rfl rfl rfl (by rw [ws_sz]; exact info_x) ((ws_sz _).trans (ws_sz _).symm) (ws_one _) (fun w129 hm130 => ?_))
              refine ⟨⟨hm130.at 0 rfl, hm130.at 1 rfl, hm130.at 2 rfl⟩, ?_⟩
              refine one_ready 11 (by kernel_rfl) ?_
              refine opd rfl rfl (m_store 5 36 _ _ (ws c) (old := ws 0) hm130 rfl rfl rfl rfl rfl (by rw [ws_sz]; exact info_x) ((ws_sz _).trans (ws_sz _).symm) (ws_one _) (fun w131 hm132 => ?_))
              refine ⟨⟨hm132.at 0 rfl, hm132.at 1 rfl, hm132.at 2 rfl⟩, ?_⟩
              refine wpAnyH_done (by kernel_rfl) ?_ _
              exact ⟨rfl, g104, g124, g121, rfl, (Mm.reorder hm132 [0, 1, 2, 3, 4, 6, 5] (by decide) rfl)⟩
          · refine opd rfl rfl (m_alloc (c := ws 0) (T := 36) hm106 8 rfl (al_X rfl) (fun g133 w134 hm135 => ?_))
            refine ⟨⟨hm135.at 0 rfl, hm135.at 1 rfl, hm135.at 2 rfl⟩, ?_⟩
            simp only [e1, e2, e3]
            refine two_ready 5 8 (by kernel_rfl) ?_ ?_
            · refine opd rfl rfl (m_call hm135 29 (.agg (ws c)) rfl (run_rwords rfl rfl) (rwords_any c _) (fun w136 hm137 => ?_))
              refine ⟨⟨hm137.at 0 rfl, hm137.at 1 rfl, hm137.at 2 rfl⟩, ?_⟩
              simp only [e1, e2, e3]
              refine one_ready 8 (by kernel_rfl) ?_
              refine opd rfl rfl (m_alloc (c := ws 0) (T := 36) hm137 9 rfl (al_X rfl) (fun g138 w139 hm140 => ?_))
              refine ⟨⟨hm140.at 0 rfl, hm140.at 1 rfl, hm140.at 2 rfl⟩, ?_⟩
              simp only [e1, e2, e3]
              refine one_ready 9 (by kernel_rfl) ?_
              refine opd rfl rfl (m_store 4 36 _ _ (ws a) (old := ws 0) hm140 rfl rfl rfl rfl rfl (by rw [ws_sz]; exact info_x) ((ws_sz _).trans (ws_sz _).symm) (ws_one _) (fun w141 hm142 => ?_))
              refine ⟨⟨hm142.at 0 rfl, hm142.at 1 rfl, hm142.at 2 rfl⟩, ?_⟩
              refine one_ready 10 (by kernel_rfl) ?_
              refine opd rfl rfl (m_store 5 36 _ _ (ws b) (old := ws 0) hm142 rfl rfl rfl rfl rfl (by rw [ws_sz]; exact info_x) ((ws_sz _).trans (ws_sz _).symm) (ws_one _) (fun w143 hm144 => ?_))
              refine ⟨⟨hm144.at 0 rfl, hm144.at 1 rfl, hm144.at 2 rfl⟩, ?_⟩
              refine one_ready 11 (by kernel_rfl) ?_
              refine opd rfl rfl (m_store 6 36 _ _ (ws c) (old := ws 0) hm144 rfl rfl rfl rfl rfl (by rw [ws_sz]; exact info_x) ((ws_sz _).trans (ws_sz _).symm) (ws_one _) (fun w145 hm146 => ?_))
              refine ⟨⟨hm146.at 0 rfl, hm146.at 1 rfl, hm146.at 2 rfl⟩, ?_⟩
              refine wpAnyH_done (by kernel_rfl) ?_ _
              exact ⟨rfl, g104, g133, g138, rfl, hm146⟩
            · refine opd rfl rfl (m_alloc (c := ws 0) (T := 36) hm135 9 rfl (al_X rfl) (fun g147 w148 hm149 => ?_))
              refine ⟨⟨hm149.at 0 rfl, hm149.at 1 rfl, hm149.at 2 rfl⟩, ?_⟩
              simp only [e1, e2, e3]
              refine one_ready 5 (by kernel_rfl) ?_
              refine opd rfl rfl (m_call hm149 29 (.agg (ws c)) rfl (run_rwords rfl rfl) (rwords_any c _) (fun w150 hm151 => ?_))
              refine ⟨⟨hm151.at 0 rfl, hm151.at 1 rfl, hm151.at 2 rfl⟩, ?_⟩
              simp only [e1, e2, e3]
              refine one_ready 9 (by kernel_rfl) ?_
              refine opd rfl rfl (m_store 4 36 _ _ (ws a) (old := ws 0) hm151 rfl rfl rfl rfl rfl (by rw [ws_sz]; exact info_x) ((ws_sz _).trans (ws_sz _).symm) (ws_one _) (fun w152 hm153 => ?_))
              refine ⟨⟨hm153.at 0 rfl, hm153.at 1 rfl, hm153.at 2 rfl⟩, ?_⟩
              refine one_ready 10 (by kernel_rfl) ?_
              refine opd rfl rfl (m_store 5 36 _ _ (ws b) (old := ws 0) hm153 rfl rfl rfl rfl rfl (by rw [ws_sz]; exact info_x) ((ws_sz _).trans (ws_sz _).symm) (ws_one _) (fun w154 hm155 => ?_))
              refine ⟨⟨hm155.at 0 rfl, hm155.at 1 rfl, hm155.at 2 rfl⟩, ?_⟩
              refine one_ready 11 (by kernel_rfl) ?_
              refine opd rfl rfl (m_store 6 36 _ _ (ws c) (old := ws 0) hm155 rfl rfl rfl rfl rfl (by rw [ws_sz]; exact info_x) ((ws_sz _).trans (ws_sz _).symm) (ws_one _) (fun w156 hm157 => ?_))
              refine ⟨⟨hm157.at 0 rfl, hm157.at 1 rfl, hm157.at 2 rfl⟩, ?_⟩
              refine wpAnyH_done (by kernel_rfl) ?_ _
              exact ⟨rfl, g104, g133, g147, rfl, hm157⟩
          · refine opd rfl rfl (m_alloc (c := ws 0) (T := 36) hm106 9 rfl (al_X rfl) (fun g158 w159 hm160 => ?_))
            refine ⟨⟨hm160.at 0 rfl, hm160.at 1 rfl, hm160.at 2 rfl⟩, ?_⟩
            simp only [e1, e2, e3]
            refine two_ready 5 7 (by kernel_rfl) ?_ ?_
            · refine opd rfl rfl (m_call hm160 29 (.agg (ws c)) rfl (run_rwords rfl rfl) (rwords_any c _) (fun w161 hm162 => ?_))
              refine ⟨⟨hm162.at 0 rfl, hm162.at 1 rfl, hm162.at 2 rfl⟩, ?_⟩
              simp only [e1, e2, e3]
              refine one_ready 7 (by kernel_rfl) ?_
              refine opd rfl rfl (m_alloc (c := ws 0) (T := 36) hm162 8 rfl (al_X rfl) (fun g163 w164 hm165 => ?_))
              refine ⟨⟨hm165.at 0 rfl, hm165.at 1 rfl, hm165.at 2 rfl⟩, ?_⟩
              simp only [e1, e2, e3]
              refine one_ready 9 (by kernel_rfl) ?_
              refine opd rfl rfl (m_store 4 36 _ _ (ws a) (old := ws 0) hm165 rfl rfl rfl rfl rfl (by rw [ws_sz]; exact info_x) ((ws_sz _).trans (ws_sz _).symm) (ws_one _) (fun w166 hm167 => ?_))
              refine ⟨⟨hm167.at 0 rfl, hm167.at 1 rfl, hm167.at 2 rfl⟩, ?_⟩
              refine one_ready 10 (by kernel_rfl) ?_
              refine opd rfl rfl (m_store 6 36 _ _ (ws b) (old := ws 0) hm167 rfl rfl rfl rfl rfl (by rw [ws_sz]; exact info_x) ((ws_sz _).trans (ws_sz _).symm) (ws_one _) (fun w168 hm169 => ?_))
              refine ⟨⟨hm169.at 0 rfl, hm169.at 1 rfl, hm169.at 2 rfl⟩, ?_⟩
              refine one_ready 11 (by kernel_rfl) ?_
              refine opd rfl rfl (m_store 5 36 _ _ (ws c) (old := ws 0) hm169 rfl rfl rfl rfl rfl (by rw [ws_sz]; exact info_x) ((ws_sz _).trans (ws_sz _).symm) (ws_one _) (fun w170 hm171 => ?_))
              refine ⟨⟨hm171.at 0 rfl, hm171.at 1 rfl, hm171.at 2 rfl⟩, ?_⟩
              refine wpAnyH_done (by kernel_rfl) ?_ _
              exact ⟨rfl, g104, g163, g158, rfl, (Mm.reorder hm171 [0, 1, 2, 3, 4, 6, 5] (by decide) rfl)⟩
            · refine opd rfl rfl (m_alloc (c := ws 0) (T := 36) hm160 8 rfl (al_X rfl) (fun g172 w173 hm174 => ?_))
              refine ⟨⟨hm174.at 0 rfl, hm174.at 1 rfl, hm174.at 2 rfl⟩, ?_⟩
              simp only [e1, e2, e3]
              refine one_ready 5 (by kernel_rfl) ?_
              refine opd rfl rfl (m_call hm174 29 (.agg (ws c)) rfl (run_rwords rfl rfl) (rwords_any c _) (fun w175 hm176 => ?_))
              refine ⟨⟨hm176.at 0 rfl, hm176.at 1 rfl, hm176.at 2 rfl⟩, ?_⟩
              simp only [e1, e2, e3]
              refine one_ready 9 (by kernel_rfl) ?_
              refine opd rfl rfl (m_store 4 36 _ _ (ws a) (old := ws 0) hm176 rfl rfl rfl rfl rfl (by rw [ws_sz]; exact info_x) ((ws_sz _).trans (ws_sz _).symm) (ws_one _) (fun w177 hm178 => ?_))
              refine ⟨⟨hm178.at 0 rfl, hm178.at 1 rfl, hm178.at 2 rfl⟩, ?_⟩
              refine one_ready 10 (by kernel_rfl) ?_
              refine opd rfl rfl (m_store 6 36 _ _ (ws b) (old := ws 0) hm178 rfl rfl rfl rfl rfl (by rw [ws_sz]; exact info_x) ((ws_sz _).trans (ws_sz _).symm) (ws_one _) (fun w179 hm180 => ?_))
              refine ⟨⟨hm180.at 0 rfl, hm180.at 1 rfl, hm180.at 2 rfl⟩, ?_⟩
              refine one_ready 11 (by kernel_rfl) ?_
              refine opd rfl rfl (m_store 5 36 _ _ (ws c) (old := ws 0) hm180 rfl rfl rfl rfl rfl (by rw [ws_sz]; exact info_x) ((ws_sz _).trans (ws_sz _).symm) (ws_one _) (fun w181 hm182 => ?_))
              refine ⟨⟨hm182.at 0 rfl, hm182.at 1 rfl, hm182.at 2 rfl⟩, ?_⟩
              refine wpAnyH_done (by kernel_rfl) ?_ _
              exact ⟨rfl, g104, g172, g158, rfl, (Mm.reorder hm182 [0, 1, 2, 3, 4, 6, 5] (by decide) rfl)⟩
        · refine opd rfl rfl (m_alloc (c := ws 0) (T := 36) hm20 8 rfl (al_X rfl) (fun g183 w184 hm185 => ?_))
          refine ⟨⟨hm185.at 0 rfl, hm185.at 1 rfl, hm185.at 2 rfl⟩, ?_⟩
          simp only [e1, e2, e3]
          refine three_ready 5 6 8 (by kernel_rfl) ?_ ?_ ?_
          · refine opd rfl rfl (m_call hm185 29 (.agg (ws c)) rfl (run_rwords rfl rfl) (rwords_any c _) (fun w186 hm187 => ?_))
            refine ⟨⟨hm187.at 0 rfl, hm187.at 1 rfl, hm187.at 2 rfl⟩, ?_⟩
            simp only [e1, e2, e3]
            refine two_ready 6 8 (by kernel_rfl) ?_ ?_
            · refine opd rfl rfl (m_alloc (c := ws 0) (T := 36) hm187 7 rfl (al_X rfl) (fun g188 w189 hm190 => ?_))
              refine ⟨⟨hm190.at 0 rfl, hm190.at 1 rfl, hm190.at 2 rfl⟩, ?_⟩
              simp only [e1, e2, e3]
              refine one_ready 8 (by kernel_rfl) ?_
              refine opd rfl rfl (m_alloc (c := ws 0) (T := 36) hm190 9 rfl (al_X rfl) (fun g191 w192 hm193 => ?_))
              refine ⟨⟨hm193.at 0 rfl, hm193.at 1 rfl, hm193.at 2 rfl⟩, ?_⟩
              simp only [e1, e2, e3]
              refine one_ready 9 (by kernel_rfl) ?_
              refine opd rfl rfl (m_store 5 36 _ _ (ws a) (old := ws 0) hm193 rfl rfl rfl rfl rfl (by rw [ws_sz]; exact info_x) ((ws_sz _).trans (ws_sz _).symm) (ws_one _) (fun w194 hm195 => ?_))
              refine ⟨⟨hm195.at 0 rfl, hm195.at 1 rfl, hm195.at 2 rfl⟩, ?_⟩
              refine one_ready 10 (by kernel_rfl) ?_
              refine opd rfl rfl (m_store 4 36 _ _ (ws b) (old := ws 0) hm195 rfl rfl rfl rfl rfl (by rw [ws_sz]; exact info_x) ((ws_sz _).trans (ws_sz _).symm) (ws_one _) (fun w196 hm197 => ?_))
              refine ⟨⟨hm197.at 0 rfl, hm197.at 1 rfl, hm197.at 2 rfl⟩, ?_⟩
              refine one_ready 11 (by kernel_rfl) ?_
              refine opd rfl rfl (m_store 6 36 _ _ (ws c) (old := ws 0) hm197 rfl rfl rfl rfl rfl (by rw [ws_sz]; exact info_x) ((ws_sz _).trans (ws_sz _).symm) (ws_one _) (fun w198 hm199 => ?_))
              refine ⟨⟨hm199.at 0 rfl, hm199.at 1 rfl, hm199.at 2 rfl⟩, ?_⟩
              refine wpAnyH_done (by kernel_rfl) ?_ _
              exact ⟨rfl, g188, g183, g191, rfl, (Mm.reorder hm199 [0, 1, 2, 3, 5, 4, 6] (by decide) rfl)⟩
            · refine opd rfl rfl (m_alloc (c := ws 0) (T := 36) hm187 9 rfl (al_X rfl) (fun g200 w201 hm202 => ?_))
              refine ⟨⟨hm202.at 0 rfl, hm202.at 1 rfl, hm202.at 2 rfl⟩, ?_⟩
              simp only [e1, e2, e3]
              refine one_ready 6 (by kernel_rfl) ?_
              refine opd rfl rfl (m_alloc (c := ws 0) (T := 36) hm202 7 rfl (al_X rfl) (fun g203 w204 hm205 => ?_))
              refine ⟨⟨hm205.at 0 rfl, hm205.at 1 rfl, hm205.at 2 rfl⟩, ?_⟩
              simp only [e1, e2, e3]
              refine one_ready 9 (by kernel_rfl) ?_
              refine opd rfl rfl (m_store 6 36 _ _ (ws a) (old := ws 0) hm205 rfl rfl rfl rfl rfl (by rw [ws_sz]; exact info_x) ((ws_sz _).trans (ws_sz _).symm) (ws_one _) (fun w206 hm207 => ?_))
              refine ⟨⟨hm207.at 0 rfl, hm207.at 1 rfl, hm207.at 2 rfl⟩, ?_⟩
              refine one_ready 10 (by kernel_rfl) ?_
              refine opd rfl rfl (m_store 4 36 _ _ (ws b) (old := ws 0) hm207 rfl rfl rfl rfl rfl (by rw [ws_sz]; exact info_x) ((ws_sz _).trans (ws_sz _).symm) (ws_one _) (fun w208 hm209 => ?_))
              refine ⟨⟨hm209.at 0 rfl, hm209.at 1 rfl, hm209.at 2 rfl⟩, ?_⟩
              refine one_ready 11 (by kernel_rfl) ?_
              refine opd rfl rfl (m_store 5 36 _ _ (ws c) (old := ws 0) hm209 rfl rfl rfl rfl rfl (by rw [ws_sz]; exact info_x) ((ws_sz _).trans (ws_sz _).symm) (ws_one _) (fun w210 hm211 => ?_))
              refine ⟨⟨hm211.at 0 rfl, hm211.at 1 rfl, hm211.at 2 rfl⟩, ?_⟩
              refine wpAnyH_done (by kernel_rfl) ?_ _
              exact ⟨rfl, g203, g183, g200, rfl, (Mm.reorder hm211 [0, 1, 2, 3, 6, 4, 5] (by decide) rfl)⟩
          · refine opd rfl rfl (m_alloc (c := ws 0) (T := 36) hm185 7 rfl (al_X rfl) (fun g212 w213 hm214 => ?_))
            refine ⟨⟨hm214.at 0 rfl, hm214.at 1 rfl, hm214.at 2 rfl⟩, ?_⟩
            simp only [e1, e2, e3]
            refine two_ready 5 8 (by kernel_rfl) ?_ ?_
            · refine opd rfl rfl (m_call hm214 29 (.agg (ws c)) rfl (run_rwords rfl rfl) (rwords_any c _) (fun w215 hm216 => ?_))
              refine ⟨⟨hm216.at 0 rfl, hm216.at 1 rfl, hm216.at 2 rfl⟩, ?_⟩
              simp only [e1, e2, e3]
              refine one_ready 8 (by kernel_rfl) ?_
              refine opd rfl rfl (m_alloc (c := ws 0) (T := 36) hm216 9 rfl (al_X rfl) (fun g217 w218 hm219 => ?_))
              refine ⟨⟨hm219.at 0 rfl, hm219.at 1 rfl, hm219.at 2 rfl⟩, ?_⟩
              simp only [e1, e2, e3]
              refine one_ready 9 (by kernel_rfl) ?_
              refine opd rfl rfl (m_store 5 36 _ _ (ws a) (old := ws 0) hm219 rfl rfl rfl rfl rfl (by rw [ws_sz]; exact info_x) ((ws_sz _).trans (ws_sz _).symm) (ws_one _) (fun w220 hm221 => ?_))
              refine ⟨⟨hm221.at 0 rfl, hm221.at 1 rfl, hm221.at 2 rfl⟩, ?_⟩
              refine one_ready 10 (by kernel_rfl) ?_
              refine opd rfl rfl (m_store 4 36 _ _ (ws b) (old := ws 0) hm221 rfl rfl rfl rfl rfl (by rw [ws_sz]; exact info_x) ((ws_sz _).trans (ws_sz _).symm) (ws_one _) (fun w222 hm223 => ?_))
              refine ⟨⟨hm223.at 0 rfl, hm223.at 1 rfl, hm223.at 2 rfl⟩, ?_⟩
              refine one_ready 11 (by kernel_rfl) ?_
              refine opd rfl rfl (m_store 6 36 _ _ (ws c) (old := ws 0) hm223 rfl rfl rfl rfl rfl (by rw [ws_sz]; exact info_x) ((ws_sz _).trans (ws_sz _).symm) (ws_one _) (fun w224 hm225 => ?_))
              refine ⟨⟨hm225.at 0 rfl, hm225.at 1 rfl, hm225.at 2 rfl⟩, ?_⟩
              refine wpAnyH_done (by kernel_rfl) ?_ _
              exact ⟨rfl, g212, g183, g217, rfl, (Mm.reorder hm225 [0, 1, 2, 3, 5, 4, 6] (by decide) rfl)⟩
            · refine opd rfl rfl (m_alloc (c := ws 0) (T := 36) hm214 9 rfl (al_X rfl) (fun g226 w227 hm228 => ?_))
              refine ⟨⟨hm228.at 0 rfl, hm228.at 1 rfl, hm228.at 2 rfl⟩, ?_⟩
              simp only [e1, e2, e3]
              refine one_ready 5 (by kernel_rfl) ?_
              refine opd rfl rfl (m_call hm228 29 (.agg (ws c)) rfl (run_rwords rfl rfl) (rwords_any c _) (fun w229 hm230 => ?_))
              refine ⟨⟨hm230.at 0 rfl, hm230.at 1 rfl, hm230.at 2 rfl⟩, ?_⟩
              simp only [e1, e2, e3]
              refine one_ready 9 (by kernel_rfl) ?_
              refine opd rfl rfl (m_store 5 36 _ _ (ws a) (old := ws 0) hm230 rfl rfl rfl rfl rfl (by rw [ws_sz]; exact info_x) ((ws_sz _).trans (ws_sz _).symm) (ws_one _) (fun w231 hm232 => ?_))
              refine ⟨⟨hm232.at 0 rfl, hm232.at 1 rfl, hm232.at 2 rfl⟩, ?_⟩
              refine one_ready 10 (by kernel_rfl) ?_
              refine opd rfl rfl (m_store 4 36 _ _ (ws b) (old := ws 0) hm232 rfl rfl rfl rfl rfl (by rw [ws_sz]; exact info_x) ((ws_sz _).trans (ws_sz _).symm) (ws_one _) (fun w233 hm234 => ?_))
              refine ⟨⟨hm234.at 0 rfl, hm234.at 1 rfl, hm234.at 2 rfl⟩, ?_⟩
              refine one_ready 11 (by kernel_rfl) ?_
              refine opd rfl rfl (m_store 6 36 _ _ (ws c) (old := ws 0) hm234 rfl rfl rfl rfl rfl (by rw [ws_sz]; exact info_x) ((ws_sz _).trans (ws_sz _).symm) (ws_one _) (fun w235 hm236 => ?_))
              refine ⟨⟨hm236.at 0 rfl, hm236.at 1 rfl, hm236.at 2 rfl⟩, ?_⟩
              refine wpAnyH_done (by kernel_rfl) ?_ _
              exact ⟨rfl, g212, g183, g226, rfl, (Mm.reorder hm236 [0, 1, 2, 3, 5, 4, 6] (by decide) rfl)⟩
          · refine opd rfl rfl (m_alloc (c := ws 0) (T := 36) hm185 9 rfl (al_X rfl) (fun g237 w238 hm239 => ?_))
            refine ⟨⟨hm239.at 0 rfl, hm239.at 1 rfl, hm239.at 2 rfl⟩, ?_⟩
            simp only [e1, e2, e3]
            refine two_ready 5 6 (by kernel_rfl) ?_ ?_
            · refine opd rfl rfl (m_call hm239 29 (.agg (ws c)) rfl (run_rwords rfl rfl) (rwords_any c _) (fun w240 hm241 => ?_))
              refine ⟨⟨hm241.at 0 rfl, hm241.at 1 rfl, hm241.at 2 rfl⟩, ?_⟩
              simp only [e1, e2, e3]
              refine one_ready 6 (by kernel_rfl) ?_
              refine opd rfl rfl (m_alloc (c := ws 0) (T := 36) hm241 7 rfl (al_X rfl) (fun g242 w243 hm244 => ?_))
              refine ⟨⟨hm244.at 0 rfl, hm244.at 1 rfl, hm244.at 2 rfl⟩, ?_⟩
              simp only [e1, e2, e3]
              refine one_ready 9 (by kernel_rfl) ?_
              refine opd rfl rfl (m_store 6 36 _ _ (ws a) (old := ws 0) hm244 rfl rfl rfl rfl rfl (by rw [ws_sz]; exact info_x) ((ws_sz _).trans (ws_sz _).symm) (ws_one _) (fun w245 hm246 => ?_))
              refine ⟨⟨hm246.at 0 rfl, hm246.at 1 rfl, hm246.at 2 rfl⟩, ?_⟩
              refine one_ready 10 (by kernel_rfl) ?_
              refine opd rfl rfl (m_store 4 36 _ _ (ws b) (old := ws 0) hm246 rfl rfl rfl rfl rfl (by rw [ws_sz]; exact info_x) ((ws_sz _).trans (ws_sz _).symm) (ws_one _) (fun w247 hm248 => ?_))
              refine ⟨⟨hm248.at 0 rfl, hm248.at 1 rfl, hm248.at 2 rfl⟩, ?_⟩
              refine one_ready 11 (by kernel_rfl) ?_
              refine opd rfl rfl (m_store 5 36 _ _ (ws c) (old := ws 0) hm248 rfl rfl rfl rfl rfl (by rw [ws_sz]; exact info_x) ((ws_sz _).trans (ws_sz _).symm) (ws_one _) (fun w249 hm250 => ?_))
              refine ⟨⟨hm250.at 0 rfl, hm250.at 1 rfl, hm250.at 2 rfl⟩, ?_⟩
              refine wpAnyH_done (by kernel_rfl) ?_ _
              exact ⟨rfl, g242, g183, g237, rfl, (Mm.reorder hm250 [0, 1, 2, 3, 6, 4, 5] (by decide) rfl)⟩
            · refine opd rfl rfl (m_alloc (c := ws 0) (T := 36) hm239 7 rfl (al_X rfl) (fun g251 w252 hm253 => ?_))
              refine ⟨⟨hm253.at 0 rfl, hm253.at 1 rfl, hm253.at 2 rfl⟩, ?_⟩
              simp only [e1, e2, e3]
              refine one_ready 5 (by kernel_rfl) ?_
              refine opd rfl rfl (m_call hm253 29 (.agg (ws c)) rfl (run_rwords rfl rfl) (rwords_any c _) (fun w254 hm255 => ?_))
              refine ⟨⟨hm255.at 0 rfl, hm255.at 1 rfl, hm255.at 2 rfl⟩, ?_⟩
              simp only [e1, e2, e3]
              refine one_ready 9 (by kernel_rfl) ?_
              refine opd rfl rfl (m_store 6 36 _ _ (ws a) (old := ws 0) hm255 rfl rfl rfl rfl rfl (by rw [ws_sz]; exact info_x) ((ws_sz _).trans (ws_sz _).symm) (ws_one _) (fun w256 hm257 => ?_))
              refine ⟨⟨hm257.at 0 rfl, hm257.at 1 rfl, hm257.at 2 rfl⟩, ?_⟩
              refine one_ready 10 (by kernel_rfl) ?_
              refine opd rfl rfl (m_store 4 36 _ _ (ws b) (old := ws 0) hm257 rfl rfl rfl rfl rfl (by rw [ws_sz]; exact info_x) ((ws_sz _).trans (ws_sz _).symm) (ws_one _) (fun w258 hm259 => ?_))
              refine ⟨⟨hm259.at 0 rfl, hm259.at 1 rfl, hm259.at 2 rfl⟩, ?_⟩
              refine one_ready 11 (by kernel_rfl) ?_
              refine opd rfl rfl (m_store 5 36 _ _ (ws c) (old := ws 0) hm259 rfl rfl rfl rfl rfl (by rw [ws_sz]; exact info_x) ((ws_sz _).trans (ws_sz _).symm) (ws_one _) (fun w260 hm261 => ?_))
              refine ⟨⟨hm261.at 0 rfl, hm261.at 1 rfl, hm261.at 2 rfl⟩, ?_⟩
              refine wpAnyH_done (by kernel_rfl) ?_ _
              exact ⟨rfl, g251, g183, g237, rfl, (Mm.reorder hm261 [0, 1, 2, 3, 6, 4, 5] (by decide) rfl)⟩
        · refine opd rfl rfl (m_alloc (c := ws 0) (T := 36) hm20 9 rfl (al_X rfl) (fun g262 w263 hm264 => ?_))
          refine ⟨⟨hm264.at 0 rfl, hm264.at 1 rfl, hm264.at 2 rfl⟩, ?_⟩
          simp only [e1, e2, e3]
          refine three_ready 5 6 7 (by kernel_rfl) ?_ ?_ ?_
          · refine opd rfl rfl (m_call hm264 29 (.agg (ws c)) rfl (run_rwords rfl rfl) (rwords_any c _) (fun w265 hm266 => ?_))
            refine ⟨⟨hm266.at 0 rfl, hm266.at 1 rfl, hm266.at 2 rfl⟩, ?_⟩
            simp only [e1, e2, e3]
            refine two_ready 6 7 (by kernel_rfl) ?_ ?_
            · refine opd rfl rfl (m_alloc (c := ws 0) (T := 36) hm266 7 rfl (al_X rfl) (fun g267 w268 hm269 => ?_))
              refine ⟨⟨hm269.at 0 rfl, hm269.at 1 rfl, hm269.at 2 rfl⟩, ?_⟩
              simp only [e1, e2, e3]
              refine one_ready 7 (by kernel_rfl) ?_
              refine opd rfl rfl (m_alloc (c := ws 0) (T := 36) hm269 8 rfl (al_X rfl) (fun g270 w271 hm272 => ?_))
              refine ⟨⟨hm272.at 0 rfl, hm272.at 1 rfl, hm272.at 2 rfl⟩, ?_⟩
              simp only [e1, e2, e3]
              refine one_ready 9 (by kernel_rfl) ?_
              refine opd rfl rfl (m_store 5 36 _ _ (ws a) (old := ws 0) hm272 rfl rfl rfl rfl rfl (by rw [ws_sz]; exact info_x) ((ws_sz _).trans (ws_sz _).symm) (ws_one _) (fun w273 hm274 => ?_))
              refine ⟨⟨hm274.at 0 rfl, hm274.at 1 rfl, hm274.at 2 rfl⟩, ?_⟩
              refine one_ready 10 (by kernel_rfl) ?_
              refine opd rfl rfl (m_store 6 36 _ _ (ws b) (old := ws 0) hm274 rfl rfl rfl rfl rfl (by rw [ws_sz]; exact info_x) ((ws_sz _).trans (ws_sz _).symm) (ws_one _) (fun w275 hm276 => ?_))
              refine ⟨⟨hm276.at 0 rfl, hm276.at 1 rfl, hm276.at 2 rfl⟩, ?_⟩
              refine one_ready 11 (by kernel_rfl) ?_
              refine opd rfl rfl (m_store 4 36 _ _ (ws c) (old := ws 0) hm276 rfl rfl rfl rfl rfl (by rw [ws_sz]; exact info_x) ((ws_sz _).trans (ws_sz _).symm) (ws_one _) (fun w277 hm278 => ?_))
              refine ⟨⟨hm278.at 0 rfl, hm278.at 1 rfl, hm278.at 2 rfl⟩, ?_⟩
              refine wpAnyH_done (by kernel_rfl) ?_ _
              exact ⟨rfl, g267, g270, g262, rfl, (Mm.reorder hm278 [0, 1, 2, 3, 5, 6, 4] (by decide) rfl)⟩
            · refine opd rfl rfl (m_alloc (c := ws 0) (T := 36) hm266 8 rfl (al_X rfl) (fun g279 w280 hm281 => ?_))
              refine ⟨⟨hm281.at 0 rfl, hm281.at 1 rfl, hm281.at 2 rfl⟩, ?_⟩
              simp only [e1, e2, e3]
              refine one_ready 6 (by kernel_rfl) ?_
              refine opd rfl rfl (m_alloc (c := ws 0) (T := 36) hm281 7 rfl (al_X rfl) (fun g282 w283 hm284 => ?_))
              refine ⟨⟨hm284.at 0 rfl, hm284.at 1 rfl, hm284.at 2 rfl⟩, ?_⟩
              simp only [e1, e2, e3]
              refine one_ready 9 (by kernel_rfl) ?_
              refine opd rfl rfl (m_store 6 36 _ _ (ws a) (old := ws 0) hm284 rfl rfl rfl rfl rfl (by rw [ws_sz]; exact info_x) ((ws_sz _).trans (ws_sz _).symm) (ws_one _) (fun w285 hm286 => ?_))
              refine ⟨⟨hm286.at 0 rfl, hm286.at 1 rfl, hm286.at 2 rfl⟩, ?_⟩
              refine one_ready 10 (by kernel_rfl) ?_
              refine opd rfl rfl (m_store 5 36 _ _ (ws b) (old := ws 0) hm286 rfl rfl rfl rfl rfl (by rw [ws_sz]; exact info_x) ((ws_sz _).trans (ws_sz _).symm) (ws_one _) (fun w287 hm288 => ?_))
              refine ⟨⟨hm288.at 0 rfl, hm288.at 1 rfl, hm288.at 2 rfl⟩, ?_⟩
              refine one_ready 11 (by kernel_rfl) ?_
              refine opd rfl rfl (m_store 4 36 _ _ (ws c) (old := ws 0) hm288 rfl rfl rfl rfl rfl (by rw [ws_sz]; exact info_x) ((ws_sz _).trans (ws_sz _).symm) (ws_one _) (fun w289 hm290 => ?_))
              refine ⟨⟨hm290.at 0 rfl, hm290.at 1 rfl, hm290.at 2 rfl⟩, ?_⟩
              refine wpAnyH_done (by kernel_rfl) ?_ _
              exact ⟨rfl, g282, g279, g262, rfl, (Mm.reorder hm290 [0, 1, 2, 3, 6, 5, 4] (by decide) rfl)⟩
          · refine opd rfl rfl (m_alloc (c := ws 0) (T := 36) hm264 7 rfl (al_X rfl) (fun g291 w292 hm293 => ?_))
            refine ⟨⟨hm293.at 0 rfl, hm293.at 1 rfl, hm293.at 2 rfl⟩, ?_⟩
            simp only [e1, e2, e3]
            refine two_ready 5 7 (by kernel_rfl) ?_ ?_
            · refine opd rfl rfl (m_call hm293 29 (.agg (ws c)) rfl (run_rwords rfl rfl) (rwords_any c _) (fun w294 hm295 => ?_))
              refine ⟨⟨hm295.at 0 rfl, hm295.at 1 rfl, hm295.at 2 rfl⟩, ?_⟩
              simp only [e1, e2, e3]
              refine one_ready 7 (by kernel_rfl) ?_
              refine opd rfl rfl (m_alloc (c := ws 0) (T := 36) hm295 8 rfl (al_X rfl) (fun g296 w297 hm298 => ?_))
              refine ⟨⟨hm298.at 0 rfl, hm298.at 1 rfl, hm298.at 2 rfl⟩, ?_⟩
              simp only [e1, e2, e3]
              refine one_ready 9 (by kernel_rfl) ?_
              refine opd rfl rfl (m_store 5 36 _ _ (ws a) (old := ws 0) hm298 rfl rfl rfl rfl rfl (by rw [ws_sz]; exact info_x) ((ws_sz _).trans (ws_sz _).symm) (ws_one _) (fun w299 hm300 => ?_))
              refine ⟨⟨hm300.at 0 rfl, hm300.at 1 rfl, hm300.at 2 rfl⟩, ?_⟩
              refine one_ready 10 (by kernel_rfl) ?_
              refine opd rfl rfl (m_store 6 36 _ _ (ws b) (old := ws 0) hm300 rfl rfl rfl rfl rfl (by rw [ws_sz]; exact info_x) ((ws_sz _).trans (ws_sz _).symm) (ws_one _) (fun w301 hm302 => ?_))
              refine ⟨⟨hm302.at 0 rfl, hm302.at 1 rfl, hm302.at 2 rfl⟩, ?_⟩
              refine one_ready 11 (by kernel_rfl) ?_
              refine opd rfl rfl (m_store 4 36 _ _ (ws c) (old := ws 0) hm302 rfl rfl rfl rfl rfl (by rw [ws_sz]; exact info_x) ((ws_sz _).trans (ws_sz _).symm) (ws_one _) (fun w303 hm304 => ?_))
              refine ⟨⟨hm304.at 0 rfl, hm304.at 1 rfl, hm304.at 2 rfl⟩, ?_⟩
              refine wpAnyH_done (by kernel_rfl) ?_ _
              exact ⟨rfl, g291, g296, g262, rfl, (Mm.reorder hm304 [0, 1, 2, 3, 5, 6, 4] (by decide) rfl)⟩
            · refine opd rfl rfl (m_alloc (c := ws 0) (T := 36) hm293 8 rfl (al_X rfl) (fun g305 w306 hm307 => ?_))
              refine ⟨⟨hm307.at 0 rfl, hm307.at 1 rfl, hm307.at 2 rfl⟩, ?_⟩
              simp only [e1, e2, e3]
              refine one_ready 5 (by kernel_rfl) ?_
              refine opd rfl rfl (m_call hm307 29 (.agg (ws c)) rfl (run_rwords rfl rfl) (rwords_any c _) (fun w308 hm309 => ?_))
              refine ⟨⟨hm309.at 0 rfl, hm309.at 1 rfl, hm309.at 2 rfl⟩, ?_⟩
              simp only [e1, e2, e3]
              refine one_ready 9 (by kernel_rfl) ?_
              refine opd rfl rfl (m_store 5 36 _ _ (ws a) (old := ws 0) hm309 rfl rfl rfl rfl rfl (by rw [ws_sz]; exact info_x) ((ws_sz _).trans (ws_sz _).symm) (ws_one _) (fun w310 hm311 => ?_))
              refine ⟨⟨hm311.at 0 rfl, hm311.at 1 rfl, hm311.at 2 rfl⟩, ?_⟩
              refine one_ready 10 (by kernel_rfl) ?_
              refine opd rfl rfl (m_store 6 36 _ _ (ws b) (old := ws 0) hm311 rfl rfl rfl rfl rfl (by rw [ws_sz]; exact info_x) ((ws_sz _).trans (ws_sz _).symm) (ws_one _) (fun w312 hm313 => ?_))
              refine ⟨⟨hm313.at 0 rfl, hm313.at 1 rfl, hm313.at 2 rfl⟩, ?_⟩
              refine one_ready 11 (by kernel_rfl) ?_
              refine opd rfl rfl (m_store 4 36 _ _ (ws c) (old := ws 0) hm313 rfl rfl rfl rfl rfl (by rw [ws_sz]; exact info_x) ((ws_sz _).trans (ws_sz _).symm) (ws_one _) (fun w314 hm315 => ?_))
              refine ⟨⟨hm315.at 0 rfl, hm315.at 1 rfl, hm315.at 2 rfl⟩, ?_⟩
              refine wpAnyH_done (by kernel_rfl) ?_ _
              exact ⟨rfl, g291, g305, g262, rfl, (Mm.reorder hm315 [0, 1, 2, 3, 5, 6, 4] (by decide) rfl)⟩
          · refine opd rfl rfl (m_alloc (c := ws 0) (T := 36) hm264 8 rfl (al_X rfl) (fun g316 w317 hm318 => ?_))
            refine ⟨⟨hm318.at 0 rfl, hm318.at 1 rfl, hm318.at 2 rfl⟩, ?_⟩
            simp only [e1, e2, e3]
            refine two_ready 5 6 (by kernel_rfl) ?_ ?_
            · refine opd rfl rfl (m_call hm318 29 (.agg (ws c)) rfl (run_rwords rfl rfl) (rwords_any c _) (fun w319 hm320 => ?_))
              refine ⟨⟨hm320.at 0 rfl, hm320.at 1 rfl, hm320.at 2 rfl⟩, ?_⟩
              simp only [e1, e2, e3]
              refine one_ready 6 (by kernel_rfl) ?_
              refine opd rfl rfl (m_alloc (c := ws 0) (T := 36) hm320 7 rfl (al_X rfl) (fun g321 w322 hm323 => ?_))
              refine ⟨⟨hm323.at 0 rfl, hm323.at 1 rfl, hm323.at 2 rfl⟩, ?_⟩
              simp only [e1, e2, e3]
              refine one_ready 9 (by kernel_rfl) ?_
              refine opd rfl rfl (m_store 6 36 _ _ (ws a) (old := ws 0) hm323 rfl rfl rfl rfl rfl (by rw [ws_sz]; exact info_x) ((ws_sz _).trans (ws_sz _).symm) (ws_one _) (fun w324 hm325 => ?_))
              refine ⟨⟨hm325.at 0 rfl, hm325.at 1 rfl, hm325.at 2 rfl⟩, ?_⟩
              refine one_ready 10 (by kernel_rfl) ?_
              refine opd rfl rfl (m_store 5 36 _ _ (ws b) (old := ws 0) hm325 rfl rfl rfl rfl rfl (by rw [ws_sz]; exact info_x) ((ws_sz _).trans (ws_sz _).symm) (ws_one _) (fun w326 hm327 => ?_))
              refine ⟨⟨hm327.at 0 rfl, hm327.at 1 rfl, hm327.at 2 rfl⟩, ?_⟩
              refine one_ready 11 (by kernel_rfl) ?_
              refine opd rfl rfl (m_store 4 36 _ _ (ws c) (old := ws 0) hm327 rfl rfl rfl rfl rfl (by rw [ws_sz]; exact info_x) ((ws_sz _).trans (ws_sz _).symm) (ws_one _) (fun w328 hm329 => ?_))
              refine ⟨⟨hm329.at 0 rfl, hm329.at 1 rfl, hm329.at 2 rfl⟩, ?_⟩
              refine wpAnyH_done (by kernel_rfl) ?_ _
              exact ⟨rfl, g321, g316, g262, rfl, (Mm.reorder hm329 [0, 1, 2, 3, 6, 5, 4] (by decide) rfl)⟩
            · refine opd rfl rfl (m_alloc (c := ws 0) (T := 36) hm318 7 rfl (al_X rfl) (fun g330 w331 hm332 => ?_))
              refine ⟨⟨hm332.at 0 rfl, hm332.at 1 rfl, hm332.at 2 rfl⟩, ?_⟩
              simp only [e1, e2, e3]
              refine one_ready 5 (by kernel_rfl) ?_
              refine opd rfl rfl (m_call hm332 29 (.agg (ws c)) rfl (run_rwords rfl rfl) (rwords_any c _) (fun w333 hm334 => ?_))
              refine ⟨⟨hm334.at 0 rfl, hm334.at 1 rfl, hm334.at 2 rfl⟩, ?_⟩
              simp only [e1, e2, e3]
              refine one_ready 9 (by kernel_rfl) ?_
              refine opd rfl rfl (m_store 6 36 _ _ (ws a) (old := ws 0) hm334 rfl rfl rfl rfl rfl (by rw [ws_sz]; exact info_x) ((ws_sz _).trans (ws_sz _).symm) (ws_one _) (fun w335 hm336 => ?_))
              refine ⟨⟨hm336.at 0 rfl, hm336.at 1 rfl, hm336.at 2 rfl⟩, ?_⟩
              refine one_ready 10 (by kernel_rfl) ?_
              refine opd rfl rfl (m_store 5 36 _ _ (ws b) (old := ws 0) hm336 rfl rfl rfl rfl rfl (by rw [ws_sz]; exact info_x) ((ws_sz _).trans (ws_sz _).symm) (ws_one _) (fun w337 hm338 => ?_))
              refine ⟨⟨hm338.at 0 rfl, hm338.at 1 rfl, hm338.at 2 rfl⟩, ?_⟩
              refine one_ready 11 (by kernel_rfl) ?_
              refine opd rfl rfl (m_store 4 36 _ _ (ws c) (old := ws 0) hm338 rfl rfl rfl rfl rfl (by rw [ws_sz]; exact info_x) ((ws_sz _).trans (ws_sz _).symm) (ws_one _) (fun w339 hm340 => ?_))
              refine ⟨⟨hm340.at 0 rfl, hm340.at 1 rfl, hm340.at 2 rfl⟩, ?_⟩
              refine wpAnyH_done (by kernel_rfl) ?_ _
              exact ⟨rfl, g330, g316, g262, rfl, (Mm.reorder hm340 [0, 1, 2, 3, 6, 5, 4] (by decide) rfl)⟩
      · refine opd rfl rfl (m_alloc (c := ws 0) (T := 36) hm18 7 rfl (al_X rfl) (fun g341 w342 hm343 => ?_))
        refine ⟨⟨hm343.at 0 rfl, hm343.at 1 rfl, hm343.at 2 rfl⟩, ?_⟩
        simp only [e1, e2, e3]
        refine three_ready 3 7 8 (by kernel_rfl) ?_ ?_ ?_
        · refine opd rfl rfl (m_call hm343 27 (.agg (ws b)) rfl (run_rwords rfl rfl) (rwords_any b _) (fun w344 hm345 => ?_))
          refine ⟨⟨hm345.at 0 rfl, hm345.at 1 rfl, hm345.at 2 rfl⟩, ?_⟩
          simp only [e1, e2, e3]
          refine three_ready 5 7 8 (by kernel_rfl) ?_ ?_ ?_
          · refine opd rfl rfl (m_call hm345 29 (.agg (ws c)) rfl (run_rwords rfl rfl) (rwords_any c _) (fun w346 hm347 => ?_))
            refine ⟨⟨hm347.at 0 rfl, hm347.at 1 rfl, hm347.at 2 rfl⟩, ?_⟩
            simp only [e1, e2, e3]
            refine two_ready 7 8 (by kernel_rfl) ?_ ?_
            · refine opd rfl rfl (m_alloc (c := ws 0) (T := 36) hm347 8 rfl (al_X rfl) (fun g348 w349 hm350 => ?_))
              refine ⟨⟨hm350.at 0 rfl, hm350.at 1 rfl, hm350.at 2 rfl⟩, ?_⟩
              simp only [e1, e2, e3]
              refine one_ready 8 (by kernel_rfl) ?_
              refine opd rfl rfl (m_alloc (c := ws 0) (T := 36) hm350 9 rfl (al_X rfl) (fun g351 w352 hm353 => ?_))
              refine ⟨⟨hm353.at 0 rfl, hm353.at 1 rfl, hm353.at 2 rfl⟩, ?_⟩
              simp only [e1, e2, e3]
              refine one_ready 9 (by kernel_rfl) ?_
              refine opd rfl rfl (m_store 4 36 _ _ (ws a) (old := ws 0) hm353 rfl rfl rfl rfl rfl (by rw [ws_sz]; exact info_x) ((ws_sz _).trans (ws_sz _).symm) (ws_one _) (fun w354 hm355 => ?_))
              refine ⟨⟨hm355.at 0 rfl, hm355.at 1 rfl, hm355.at 2 rfl⟩, ?_⟩
              refine one_ready 10 (by kernel_rfl) ?_
              refine opd rfl rfl (m_store 5 36 _ _ (ws b) (old := ws 0) hm355 rfl rfl rfl rfl rfl (by rw [ws_sz]; exact info_x) ((ws_sz _).trans (ws_sz _).symm) (ws_one _) (fun w356 hm357 => ?_))
              refine ⟨⟨hm357.at 0 rfl, hm357.at 1 rfl, hm357.at 2 rfl⟩, ?_⟩
              refine one_ready 11 (by kernel_rfl) ?_
              refine opd rfl rfl (m_store 6 36 _ _ (ws c) (old := ws 0) hm357 rfl rfl rfl rfl rfl (by rw [ws_sz]; exact info_x) ((ws_sz _).trans (ws_sz _).symm) (ws_one _) (fun w358 hm359 => ?_))
              refine ⟨⟨hm359.at 0 rfl, hm359.at 1 rfl, hm359.at 2 rfl⟩, ?_⟩
              refine wpAnyH_done (by kernel_rfl) ?_ _
              exact ⟨rfl, g341, g348, g351, rfl, hm359⟩
            · refine opd rfl rfl (m_alloc (c := ws 0) (T := 36) hm347 9 rfl (al_X rfl) (fun g360 w361 hm362 => ?_))
              refine ⟨⟨hm362.at 0 rfl, hm362.at 1 rfl, hm362.at 2 rfl⟩, ?_⟩
              simp only [e1, e2, e3]
              refine one_ready 7 (by kernel_rfl) ?_
              refine opd rfl rfl (m_alloc (c := ws 0) (T := 36) hm362 8 rfl (al_X rfl) (fun g363 w364 hm365 => ?_))
              refine ⟨⟨hm365.at 0 rfl, hm365.at 1 rfl, hm365.at 2 rfl⟩, ?_⟩
              simp only [e1, e2, e3]
              refine one_ready 9 (by kernel_rfl) ?_
              refine opd rfl rfl (m_store 4 36 _ _ (ws a) (old := ws 0) hm365 rfl rfl rfl rfl rfl (by rw [ws_sz]; exact info_x) ((ws_sz _).trans (ws_sz _).symm) (ws_one _) (fun w366 hm367 => ?_))
              refine ⟨⟨hm367.at 0 rfl, hm367.at 1 rfl, hm367.at 2 rfl⟩, ?_⟩
              refine one_ready 10 (by kernel_rfl) ?_
              refine opd rfl rfl (m_store 6 36 _ _ (ws b) (old := ws 0) hm367 rfl rfl rfl rfl rfl (by rw [ws_sz]; exact info_x) ((ws_sz _).trans (ws_sz _).symm) (ws_one _) (fun w368 hm369 => ?_))
              refine ⟨⟨hm369.at 0 rfl, hm369.at 1 rfl, hm369.at 2 rfl⟩, ?_⟩
              refine one_ready 11 (by kernel_rfl) ?_
              refine opd rfl rfl (m_store 5 36 _ _ (ws c) (old := ws 0) hm369 rfl rfl rfl rfl rfl (by rw [ws_sz]; exact info_x) ((ws_sz _).trans (ws_sz _).symm) (ws_one _) (fun w370 hm371 => ?_))
              refine ⟨⟨hm371.at 0 rfl, hm371.at 1 rfl, hm371.at 2 rfl⟩, ?_⟩
              refine wpAnyH_done (by kernel_rfl) ?_ _
              exact ⟨rfl, g341, g363, g360, rfl, (Mm.reorder hm371 [0, 1, 2, 3, 4, 6, 5] (by decide) rfl)⟩
          · refine opd rfl rfl (m_alloc (c := ws 0) (T := 36) hm345 8 rfl (al_X rfl) (fun g372 w373 hm374 => ?_))
            refine ⟨⟨hm374.at 0 rfl, hm374.at 1 rfl, hm374.at 2 rfl⟩, ?_⟩
            simp only [e1, e2, e3]
            refine two_ready 5 8 (by kernel_rfl) ?_ ?_
            · refine opd rfl rfl (m_call hm374 29 (.agg (ws c)) rfl (run_rwords rfl rfl) (rwords_any c _) (fun w375 hm376 => ?_))
              refine ⟨⟨hm376.at 0 rfl, hm376.at 1 rfl, hm376.at 2 rfl⟩, ?_⟩
              simp only [e1, e2, e3]
              refine one_ready 8 (by kernel_rfl) ?_
              refine opd rfl rfl (m_alloc (c := ws 0) (T := 36) hm376 9 rfl (al_X rfl) (fun g377 w378 hm379 => ?_))
              refine ⟨⟨hm379.at 0 rfl, hm379.at 1 rfl, hm379.at 2 rfl⟩, ?_⟩
              simp only [e1, e2, e3]
              refine one_ready 9 (by kernel_rfl) ?_
              refine opd rfl rfl (m_store 4 36 _ _ (ws a) (old := ws 0) hm379 rfl rfl rfl rfl rfl (by rw [ws_sz]; exact info_x) ((ws_sz _).trans (ws_sz _).symm) (ws_one _) (fun w380 hm381 => ?_))
              refine ⟨⟨hm381.at 0 rfl, hm381.at 1 rfl, hm381.at 2 rfl⟩, ?_⟩
              refine one_ready 10 (by kernel_rfl) ?_
              refine opd rfl rfl (m_store 5 36 _ _ (ws b) (old := ws 0) hm381 rfl rfl rfl rfl rfl (by rw [ws_sz]; exact info_x) ((ws_sz _).trans (ws_sz _).symm) (ws_one _) (fun w382 hm383 => ?_))
              refine ⟨⟨hm383.at 0 rfl, hm383.at 1 rfl, hm383.at 2 rfl⟩, ?_⟩
              refine one_ready 11 (by kernel_rfl) ?_
              refine opd rfl rfl (m_store 6 36 _ _ (ws c) (old := ws 0) hm383 rfl rfl rfl rfl rfl (by rw [ws_sz]; exact info_x) ((ws_sz _).trans (ws_sz _).symm) (ws_one _) (fun w384 hm385 => ?_))
              refine ⟨⟨hm385.at 0 rfl, hm385.at 1 rfl, hm385.at 2 rfl⟩, ?_⟩
              refine wpAnyH_done (by kernel_rfl) ?_ _
              exact ⟨rfl, g341, g372, g377, rfl, hm385⟩
            · refine opd rfl rfl (m_alloc (c := ws 0) (T := 36) hm374 9 rfl (al_X rfl) (fun g386 w387 hm388 => ?_))
              refine ⟨⟨hm388.at 0 rfl, hm388.at 1 rfl, hm388.at 2 rfl⟩, ?_⟩
              simp only [e1, e2, e3]
              refine one_ready 5 (by kernel_rfl) ?_
              refine opd rfl rfl (m_call hm388 29 (.agg (ws c)) rfl (run_rwords rfl rfl) (rwords_any c _) (fun w389 hm390 => ?_))
              refine ⟨⟨hm390.at 0 rfl, hm390.at 1 rfl, hm390.at 2 rfl⟩, ?_⟩
              simp only [e1, e2, e3]
              refine one_ready 9 (by kernel_rfl) ?_
              refine opd rfl rfl (m_store 4 36 _ _ (ws a) (old := ws 0) hm390 rfl rfl rfl rfl rfl (by rw [ws_sz]; exact info_x) ((ws_sz _).trans (ws_sz _).symm) (ws_one _) (fun w391 hm392 => ?_))
              refine ⟨⟨hm392.at 0 rfl, hm392.at 1 rfl, hm392.at 2 rfl⟩, ?_⟩
              refine one_ready 10 (by kernel_rfl) ?_
              refine opd rfl rfl (m_store 5 36 _ _ (ws b) (old := ws 0) hm392 rfl rfl rfl rfl rfl (by rw [ws_sz]; exact info_x) ((ws_sz _).trans (ws_sz _).symm) (ws_one _) (fun w393 hm394 => ?_))
              refine ⟨⟨hm394.at 0 rfl, hm394.at 1 rfl, hm394.at 2 rfl⟩, ?_⟩
              refine one_ready 11 (by kernel_rfl) ?_
              refine opd rfl rfl (m_store 6 36 _ _ (ws c) (old := ws 0) hm394 rfl rfl rfl rfl rfl (by rw [ws_sz]; exact info_x) ((ws_sz _).trans (ws_sz _).symm) (ws_one _) (fun w395 hm396 => ?_))
              refine ⟨⟨hm396.at 0 rfl, hm396.at 1 rfl, hm396.at 2 rfl⟩, ?_⟩
              refine wpAnyH_done (by kernel_rfl) ?_ _
              exact ⟨rfl, g341, g372, g386, rfl, hm396⟩
          · refine opd rfl rfl (m_alloc (c := ws 0) (T := 36) hm345 9 rfl (al_X rfl) (fun g397 w398 hm399 => ?_))
            refine ⟨⟨hm399.at 0 rfl, hm399.at 1 rfl, hm399.at 2 rfl⟩, ?_⟩
            simp only [e1, e2, e3]
            refine two_ready 5 7 (by kernel_rfl) ?_ ?_
            · refine opd rfl rfl (m_call hm399 29 (.agg (ws c)) rfl (run_rwords rfl rfl) (rwords_any c _) (fun w400 hm401 => ?_))
              refine ⟨⟨hm401.at 0 rfl, hm401.at 1 rfl, hm401.at 2 rfl⟩, ?_⟩
              simp only [e1, e2, e3]
              refine one_ready 7 (by kernel_rfl) ?_
              refine opd rfl rfl (m_alloc (c := ws 0) (T := 36) hm401 8 rfl (al_X rfl) (fun g402 w403 hm404 => ?_))
              refine ⟨⟨hm404.at 0 rfl, hm404.at 1 rfl, hm404.at 2 rfl⟩, ?_⟩
              simp only [e1, e2, e3]
              refine one_ready 9 (by kernel_rfl) ?_
              refine opd rfl rfl (m_store 4 36 _ _ (ws a) (old := ws 0) hm404 rfl rfl rfl rfl rfl (by rw [ws_sz]; exact info_x) ((ws_sz _).trans (ws_sz _).symm) (ws_one _) (fun w405 hm406 => ?_))
              refine ⟨⟨hm406.at 0 rfl, hm406.at 1 rfl, hm406.at 2 rfl⟩, ?_⟩
              refine one_ready 10 (by kernel_rfl) ?_
              refine opd rfl rfl (m_store 6 36 _ _ (ws b) (old := ws 0) hm406 rfl rfl rfl rfl rfl (by rw [ws_sz]; exact info_x) ((ws_sz _).trans (ws_sz _).symm) (ws_one _) (fun w407 hm408 => ?_))
              refine ⟨⟨hm408.at 0 rfl, hm408.at 1 rfl, hm408.at 2 rfl⟩, ?_⟩
              refine one_ready 11 (by kernel_rfl) ?_
              refine opd rfl rfl (m_store 5 36 _ _ (ws c) (old := ws 0) hm408 rfl rfl rfl rfl rfl (by rw [ws_sz]; exact info_x) ((ws_sz _).trans (ws_sz _).symm) (ws_one _) (fun w409 hm410 => ?_))
              refine ⟨⟨hm410.at 0 rfl, hm410.at 1 rfl, hm410.at 2 rfl⟩, ?_⟩
              refine wpAnyH_done (by kernel_rfl) ?_ _
              exact ⟨rfl, g341, g402, g397, rfl, (Mm.reorder hm410 [0, 1, 2, 3, 4, 6, 5] (by decide) rfl)⟩
            · refine opd rfl rfl (m_alloc (c := ws 0) (T := 36) hm399 8 rfl (al_X rfl) (fun g411 w412 hm413 => ?_))
              refine ⟨⟨hm413.at 0 rfl, hm413.at 1 rfl, hm413.at 2 rfl⟩, ?_⟩
              simp only [e1, e2, e3]
              refine one_ready 5 (by kernel_rfl) ?_
              refine opd rfl rfl (m_call hm413 29 (.agg (ws c)) rfl (run_rwords rfl rfl) (rwords_any c _) (fun w414 hm415 => ?_))
              refine ⟨⟨hm415.at 0 rfl, hm415.at 1 rfl, hm415.at 2 rfl⟩, ?_⟩
              simp only [e1, e2, e3]
              refine one_ready 9 (by kernel_rfl) ?_
              refine opd rfl rfl (m_store 4 36 _ _ (ws a) (old := ws 0) hm415 rfl rfl rfl rfl rfl (by rw [ws_sz]; exact info_x) ((ws_sz _).trans (ws_sz _).symm) (ws_one _) (fun w416 hm417 => ?_))
              refine ⟨⟨hm417.at 0 rfl, hm417.at 1 rfl, hm417.at 2 rfl⟩, ?_⟩
              refine one_ready 10 (by kernel_rfl) ?_
              refine opd rfl rfl (m_store 6 36 _ _ (ws b) (old := ws 0) hm417 rfl rfl rfl rfl rfl (by rw [ws_sz]; exact info_x) ((ws_sz _).trans (ws_sz _).symm) (ws_one _) (fun w418 hm419 => ?_))
              refine ⟨⟨hm419.at 0 rfl, hm419.at 1 rfl, hm419.at 2 rfl⟩, ?_⟩
              refine one_ready 11 (by kernel_rfl) ?_
              refine opd rfl rfl (m_store 5 36 _ _ (ws c) (old := ws 0) hm419 rfl rfl rfl rfl rfl (by rw [ws_sz]; exact info_x) ((ws_sz _).trans (ws_sz _).symm) (ws_one _) (fun w420 hm421 => ?_))
              refine ⟨⟨hm421.at 0 rfl, hm421.at 1 rfl, hm421.at 2 rfl⟩, ?_⟩
              refine wpAnyH_done (by kernel_rfl) ?_ _
              exact ⟨rfl, g341, g411, g397, rfl, (Mm.reorder hm421 [0, 1, 2, 3, 4, 6, 5] (by decide) rfl)⟩
        · refine opd rfl rfl (m_alloc (c := ws 0) (T := 36) hm343 8 rfl (al_X rfl) (fun g422 w423 hm424 => ?_))
          refine ⟨⟨hm424.at 0 rfl, hm424.at 1 rfl, hm424.at 2 rfl⟩, ?_⟩
          simp only [e1, e2, e3]
          refine two_ready 3 8 (by kernel_rfl) ?_ ?_
          · refine opd rfl rfl (m_call hm424 27 (.agg (ws b)) rfl (run_rwords rfl rfl) (rwords_any b _) (fun w425 hm426 => ?_))
            refine ⟨⟨hm426.at 0 rfl, hm426.at 1 rfl, hm426.at 2 rfl⟩, ?_⟩
            simp only [e1, e2, e3]
            refine two_ready 5 8 (by kernel_rfl) ?_ ?_
            · refine opd rfl rfl (m_call hm426 29 (.agg (ws c)) rfl (run_rwords rfl rfl) (rwords_any c _) (fun w427 hm428 => ?_))
              refine ⟨⟨hm428.at 0 rfl, hm428.at 1 rfl, hm428.at 2 rfl⟩, ?_⟩
              simp only [e1, e2, e3]
              refine one_ready 8 (by kernel_rfl) ?_
              refine opd rfl rfl (m_alloc (c := ws 0) (T := 36) hm428 9 rfl (al_X rfl) (fun g429 w430 hm431 => ?_))
              refine ⟨⟨hm431.at 0 rfl, hm431.at 1 rfl, hm431.at 2 rfl⟩, ?_⟩
              simp only [e1, e2, e3]
              refine one_ready 9 (by kernel_rfl) ?_
              refine opd rfl rfl (m_store 4 36 _ _ (ws a) (old := ws 0) hm431 rfl rfl rfl rfl rfl (by rw [ws_sz]; exact info_x) ((ws_sz _).trans (ws_sz _).symm) (ws_one _) (fun w432 hm433 => ?_))
              refine ⟨⟨hm433.at 0 rfl, hm433.at 1 rfl, hm433.at 2 rfl⟩, ?_⟩
              refine one_ready 10 (by kernel_rfl) ?_
              refine opd rfl rfl (m_store 5 36 _ _ (ws b) (old := ws 0) hm433 rfl rfl rfl rfl rfl (by rw [ws_sz]; exact info_x) ((ws_sz _).trans (ws_sz _).symm) (ws_one _) (fun w434 hm435 => ?_))
              refine ⟨⟨hm435.at 0 rfl, hm435.at 1 rfl, hm435.at 2 rfl⟩, ?_⟩
              refine one_ready 11 (by kernel_rfl) ?_
              refine opd rfl rfl (m_store 6 36 _ _ (ws c) (old := ws 0) hm435 rfl rfl rfl rfl rfl (by rw [ws_sz]; exact info_x) ((ws_sz _).trans (ws_sz _).symm) (ws_one _) (fun w436 hm437 => ?_))
              refine ⟨⟨hm437.at 0 rfl, hm437.at 1 rfl, hm437.at 2 rfl⟩, ?_⟩
              refine wpAnyH_done (by kernel_rfl) ?_ _
              exact ⟨rfl, g341, g422, g429, rfl, hm437⟩
            · refine opd rfl rfl (m_alloc (c := ws 0) (T := 36) hm426 9 rfl (al_X rfl) (fun g438 w439 hm440 => ?_))
              refine ⟨⟨hm440.at 0 rfl, hm440.at 1 rfl, hm440.at 2 rfl⟩, ?_⟩
              simp only [e1, e2, e3]
              refine one_ready 5 (by kernel_rfl) ?_
              refine opd rfl rfl (m_call hm440 29 (.agg (ws c)) rfl (run_rwords rfl rfl) (rwords_any c _) (fun w441 hm442 => ?_))
              refine ⟨⟨hm442.at 0 rfl, hm442.at 1 rfl, hm442.at 2 rfl⟩, ?_⟩
              simp only [e1, e2, e3]
              refine one_ready 9 (by kernel_rfl) ?_
              refine opd rfl rfl (m_store 4 36 _ _ (ws a) (old := ws 0) hm442 rfl rfl rfl rfl rfl (by rw [ws_sz]; exact info_x) ((ws_sz _).trans (ws_sz _).symm) (ws_one _) (fun w443 hm444 => ?_))
              refine ⟨⟨hm444.at 0 rfl, hm444.at 1 rfl, hm444.at 2 rfl⟩, ?_⟩
              refine one_ready 10 (by kernel_rfl) ?_
              refine opd rfl rfl (m_store 5 36 _ _ (ws b) (old := ws 0) hm444 rfl rfl rfl rfl rfl (by rw [ws_sz]; exact info_x) ((ws_sz _).trans (ws_sz _).symm) (ws_one _) (fun w445 hm446 => ?_))
              refine ⟨⟨hm446.at 0 rfl, hm446.at 1 rfl, hm446.at 2 rfl⟩, ?_⟩
              refine one_ready 11 (by kernel_rfl) ?_
              refine opd rfl rfl (m_store 6 36 _ _ (ws c) (old := ws 0) hm446 rfl rfl rfl rfl rfl (by rw [ws_sz]; exact info_x) ((ws_sz _).trans (ws_sz _).symm) (ws_one _) (fun w447 hm448 => ?_))
              refine ⟨⟨hm448.at 0 rfl, hm448.at 1 rfl, hm448.at 2 rfl⟩, ?_⟩
              refine wpAnyH_done (by kernel_rfl) ?_ _
              exact ⟨rfl, g341, g422, g438, rfl, hm448⟩
          · refine opd rfl rfl (m_alloc (c := ws 0) (T := 36) hm424 9 rfl (al_X rfl) (fun g449 w450 hm451 => ?_))
            refine ⟨⟨hm451.at 0 rfl, hm451.at 1 rfl, hm451.at 2 rfl⟩, ?_⟩
            simp only [e1, e2, e3]
            refine one_ready 3 (by kernel_rfl) ?_
            refine opd rfl rfl (m_call hm451 27 (.agg (ws b)) rfl (run_rwords rfl rfl) (rwords_any b _) (fun w452 hm453 => ?_))
            refine ⟨⟨hm453.at 0 rfl, hm453.at 1 rfl, hm453.at 2 rfl⟩, ?_⟩
            simp only [e1, e2, e3]
            refine one_ready 5 (by kernel_rfl) ?_
            refine opd rfl rfl (m_call hm453 29 (.agg (ws c)) rfl (run_rwords rfl rfl) (rwords_any c _) (fun w454 hm455 => ?_))
            refine ⟨⟨hm455.at 0 rfl, hm455.at 1 rfl, hm455.at 2 rfl⟩, ?_⟩
            simp only [e1, e2, e3]
            refine one_ready 9 (by kernel_rfl) ?_
            refine opd rfl rfl (m_store 4 36 _ _ (ws a) (old := ws 0) hm455 rfl rfl rfl rfl rfl (by rw [ws_sz]; exact info_x) ((ws_sz _).trans (ws_sz _).symm) (ws_one _) (fun w456 hm457 => ?_))
            refine ⟨⟨hm457.at 0 rfl, hm457.at 1 rfl, hm457.at 2 rfl⟩, ?_⟩
            refine one_ready 10 (by kernel_rfl) ?_
            refine opd rfl rfl (m_store 5 36 _ _ (ws b) (old := ws 0) hm457 rfl rfl rfl rfl rfl (by rw [ws_sz]; exact info_x) ((ws_sz _).trans (ws_sz _).symm) (ws_one _) (fun w458 hm459 => ?_))
            refine ⟨⟨hm459.at 0 rfl, hm459.at 1 rfl, hm459.at 2 rfl⟩, ?_⟩
            refine one_ready 11 (by kernel_rfl) ?_
            refine opd rfl rfl (m_store 6 36 _ _ (ws c) (old := ws 0) hm459 rfl rfl rfl rfl rfl (by rw [ws_sz]; exact info_x) ((ws_sz _).trans (ws_sz _).symm) (ws_one _) (fun w460 hm461 => ?_))
            refine ⟨⟨hm461.at 0 rfl, hm461.at 1 rfl, hm461.at 2 rfl⟩, ?_⟩
            refine wpAnyH_done (by kernel_rfl) ?_ _
            exact ⟨rfl, g341, g422, g449, rfl, hm461⟩
        · refine opd rfl rfl (m_alloc (c := ws 0) (T := 36) hm343 9 rfl (al_X rfl) (fun g462 w463 hm464 => ?_))
          refine ⟨⟨hm464.at 0 rfl, hm464.at 1 rfl, hm464.at 2 rfl⟩, ?_⟩
          simp only [e1, e2, e3]
          refine two_ready 3 7 (by kernel_rfl) ?_ ?_
          · refine opd rfl rfl (m_call hm464 27 (.agg (ws b)) rfl (run_rwords rfl rfl) (rwords_any b _) (fun w465 hm466 => ?_))
            refine ⟨⟨hm466.at 0 rfl, hm466.at 1 rfl, hm466.at 2 rfl⟩, ?_⟩
            simp only [e1, e2, e3]
            refine two_ready 5 7 (by kernel_rfl) ?_ ?_
            · refine opd rfl rfl (m_call hm466 29 (.agg (ws c)) rfl (run_rwords rfl rfl) (rwords_any c _) (fun w467 hm468 => ?_))
              refine ⟨⟨hm468.at 0 rfl, hm468.at 1 rfl, hm468.at 2 rfl⟩, ?_⟩
              simp only [e1, e2, e3]
              refine one_ready 7 (by kernel_rfl) ?_
              refine opd rfl rfl (m_alloc (c := ws 0) (T := 36) hm468 8 rfl (al_X rfl) (fun g469 w470 hm471 => ?_))
              refine ⟨⟨hm471.at 0 rfl, hm471.at 1 rfl, hm471.at 2 rfl⟩, ?_⟩
              simp only [e1, e2, e3]
              refine one_ready 9 (by kernel_rfl) ?_
              refine opd rfl rfl (m_store 4 36 _ _ (ws a) (old := ws 0) hm471 rfl rfl rfl rfl rfl (by rw [ws_sz]; exact info_x) ((ws_sz _).trans (ws_sz _).symm) (ws_one _) (fun w472 hm473 => ?_))
              refine ⟨⟨hm473.at 0 rfl, hm473.at 1 rfl, hm473.at 2 rfl⟩, ?_⟩
              refine one_ready 10 (by kernel_rfl) ?_
              refine opd rfl rfl (m_store 6 36 _ _ (ws b) (old := ws 0) hm473 rfl rfl rfl rfl rfl (by rw [ws_sz]; exact info_x) ((ws_sz _).trans (ws_sz _).symm) (ws_one _) (fun w474 hm475 => ?_))
              refine ⟨⟨hm475.at 0 rfl, hm475.at 1 rfl, hm475.at 2 rfl⟩, ?_⟩
              refine one_ready 11 (by kernel_rfl) ?_
              refine opd rfl rfl (m_store 5 36 _ _ (ws c) (old := ws 0) hm475 rfl rfl rfl rfl rfl (by rw [ws_sz]; exact info_x) ((ws_sz _).trans (ws_sz _).symm) (ws_one _) (fun w476 hm477 => ?_))
              refine ⟨⟨hm477.at 0 rfl, hm477.at 1 rfl, hm477.at 2 rfl⟩, ?_⟩
              refine wpAnyH_done (by kernel_rfl) ?_ _
              exact ⟨rfl, g341, g469, g462, rfl, (Mm.reorder hm477 [0, 1, 2, 3, 4, 6, 5] (by decide) rfl)⟩
            · refine opd rfl rfl (m_alloc (c := ws 0) (T := 36) hm466 8 rfl (al_X rfl) (fun g478 w479 hm480 => ?_))
              refine ⟨⟨hm480.at 0 rfl, hm480.at 1 rfl, hm480.at 2 rfl⟩, ?_⟩
              simp only [e1, e2, e3]
              refine one_ready 5 (by kernel_rfl) ?_
              refine opd rfl rfl (m_call hm480 29 (.agg (ws c)) rfl (run_rwords rfl rfl) (rwords_any c _) (fun w481 hm482 => ?_))
              refine ⟨⟨hm482.at 0 rfl, hm482.at 1 rfl, hm482.at 2 rfl⟩, ?_⟩
              simp only [e1, e2, e3]
              refine one_ready 9 (by kernel_rfl) ?_
              refine opd rfl rfl (m_store 4 36 _ _ (ws a) (old := ws 0) hm482 rfl rfl rfl rfl rfl (by rw [ws_sz]; exact info_x) ((ws_sz _).trans (ws_sz _).symm) (ws_one _) (fun w483 hm484 => ?_))
              refine ⟨⟨hm484.at 0 rfl, hm484.at 1 rfl, hm484.at 2 rfl⟩, ?_⟩
              refine one_ready 10 (by kernel_rfl) ?_
              refine opd rfl rfl (m_store 6 36 _ _ (ws b) (old := ws 0) hm484 rfl rfl rfl rfl rfl (by rw [ws_sz]; exact info_x) ((ws_sz _).trans (ws_sz _).symm) (ws_one _) (fun w485 hm486 => ?_))
              refine ⟨⟨hm486.at 0 rfl, hm486.at 1 rfl, hm486.at 2 rfl⟩, ?_⟩
              refine one_ready 11 (by kernel_rfl) ?_
              refine opd rfl rfl (m_store 5 36 _ _ (ws c) (old := ws 0) hm486 rfl rfl rfl rfl rfl (by rw [ws_sz]; exact info_x) ((ws_sz _).trans (ws_sz _).symm) (ws_one _) (fun w487 hm488 => ?_))
              refine ⟨⟨hm488.at 0 rfl, hm488.at 1 rfl, hm488.at 2 rfl⟩, ?_⟩
              refine wpAnyH_done (by kernel_rfl) ?_ _
              exact ⟨rfl, g341, g478, g462, rfl, (Mm.reorder hm488 [0, 1, 2, 3, 4, 6, 5] (by decide) rfl)⟩
          · refine opd rfl rfl (m_alloc (c := ws 0) (T := 36) hm464 8 rfl (al_X rfl) (fun g489 w490 hm491 => ?_))
            refine ⟨⟨hm491.at 0 rfl, hm491.at 1 rfl, hm491.at 2 rfl⟩, ?_⟩
            simp only [e1, e2, e3]
            refine one_ready 3 (by kernel_rfl) ?_
            refine opd rfl rfl (m_call hm491 27 (.agg (ws b)) rfl (run_rwords rfl rfl) (rwords_any b _) (fun w492 hm493 => ?_))
            refine ⟨⟨hm493.at 0 rfl, hm493.at 1 rfl, hm493.at 2 rfl⟩, ?_⟩
            simp only [e1, e2, e3]
            refine one_ready 5 (by kernel_rfl) ?_
            refine opd rfl rfl (m_call hm493 29 (.agg (ws c)) rfl (run_rwords rfl rfl) (rwords_any c _) (fun w494 hm495 => ?_))
            refine ⟨⟨hm495.at 0 rfl, hm495.at 1 rfl, hm495.at 2 rfl⟩, ?_⟩
            simp only [e1, e2, e3]
            refine one_ready 9 (by kernel_rfl) ?_
            refine opd rfl rfl (m_store 4 36 _ _ (ws a) (old := ws 0) hm495 rfl rfl rfl rfl rfl (by rw [ws_sz]; exact info_x) ((ws_sz _).trans (ws_sz _).symm) (ws_one _) (fun w496 hm497 => ?_))
            refine ⟨⟨hm497.at 0 rfl, hm497.at 1 rfl, hm497.at 2 rfl⟩, ?_⟩
            refine one_ready 10 (by kernel_rfl) ?_
            refine opd rfl rfl (m_store 6 36 _ _ (ws b) (old := ws 0) hm497 rfl rfl rfl rfl rfl (by rw [ws_sz]; exact info_x) ((ws_sz _).trans (ws_sz _).symm) (ws_one _) (fun w498 hm499 => ?_))
            refine ⟨⟨hm499.at 0 rfl, hm499.at 1 rfl, hm499.at 2 rfl⟩, ?_⟩
            refine one_ready 11 (by kernel_rfl) ?_
            refine opd rfl rfl (m_store 5 36 _ _ (ws c) (old := ws 0) hm499 rfl rfl rfl rfl rfl (by rw [ws_sz]; exact info_x) ((ws_sz _).trans (ws_sz _).symm) (ws_one _) (fun w500 hm501 => ?_))
            refine ⟨⟨hm501.at 0 rfl, hm501.at 1 rfl, hm501.at 2 rfl⟩, ?_⟩
            refine wpAnyH_done (by kernel_rfl) ?_ _
            exact ⟨rfl, g341, g489, g462, rfl, (Mm.reorder hm501 [0, 1, 2, 3, 4, 6, 5] (by decide) rfl)⟩
      · refine opd rfl rfl (m_alloc (c := ws 0) (T := 36) hm18 8 rfl (al_X rfl) (fun g502 w503 hm504 => ?_))
        refine ⟨⟨hm504.at 0 rfl, hm504.at 1 rfl, hm504.at 2 rfl⟩, ?_⟩
        simp only [e1, e2, e3]
        refine three_ready 3 6 8 (by kernel_rfl) ?_ ?_ ?_
        · refine opd rfl rfl (m_call hm504 27 (.agg (ws b)) rfl (run_rwords rfl rfl) (rwords_any b _) (fun w505 hm506 => ?_))
          refine ⟨⟨hm506.at 0 rfl, hm506.at 1 rfl, hm506.at 2 rfl⟩, ?_⟩
          simp only [e1, e2, e3]
          refine three_ready 5 6 8 (by kernel_rfl) ?_ ?_ ?_
          · refine opd rfl rfl (m_call hm506 29 (.agg (ws c)) rfl (run_rwords rfl rfl) (rwords_any c _) (fun w507 hm508 => ?_))
            refine ⟨⟨hm508.at 0 rfl, hm508.at 1 rfl, hm508.at 2 rfl⟩, ?_⟩
            simp only [e1, e2, e3]
            refine two_ready 6 8 (by kernel_rfl) ?_ ?_
            · refine opd rfl rfl (m_alloc (c := ws 0) (T := 36) hm508 7 rfl (al_X rfl) (fun g509 w510 hm511 => ?_))
              refine ⟨⟨hm511.at 0 rfl, hm511.at 1 rfl, hm511.at 2 rfl⟩, ?_⟩
              simp only [e1, e2, e3]
              refine one_ready 8 (by kernel_rfl) ?_
              refine opd rfl rfl (m_alloc (c := ws 0) (T := 36) hm511 9 rfl (al_X rfl) (fun g512 w513 hm514 => ?_))
              refine ⟨⟨hm514.at 0 rfl, hm514.at 1 rfl, hm514.at 2 rfl⟩, ?_⟩
              simp only [e1, e2, e3]
              refine one_ready 9 (by kernel_rfl) ?_
              refine opd rfl rfl (m_store 5 36 _ _ (ws a) (old := ws 0) hm514 rfl rfl rfl rfl rfl (by rw [ws_sz]; exact info_x) ((ws_sz _).trans (ws_sz _).symm) (ws_one _) (fun w515 hm516 => ?_))
              refine ⟨⟨hm516.at 0 rfl, hm516.at 1 rfl, hm516.at 2 rfl⟩, ?_⟩
              refine one_ready 10 (by kernel_rfl) ?_
              refine opd rfl rfl (m_store 4 36 _ _ (ws b) (old := ws 0) hm516 rfl rfl rfl rfl rfl (by rw [ws_sz]; exact info_x) ((ws_sz _).trans (ws_sz _).symm) (ws_one _) (fun w517 hm518 => ?_))
              refine ⟨⟨hm518.at 0 rfl, hm518.at 1 rfl, hm518.at 2 rfl⟩, ?_⟩
              refine one_ready 11 (by kernel_rfl) ?_
              refine opd rfl rfl (m_store 6 36 _ _ (ws c) (old := ws 0) hm518 rfl rfl rfl rfl rfl (by rw [ws_sz]; exact info_x) ((ws_sz _).trans (ws_sz _).symm) (ws_one _) (fun w519 hm520 => ?_))
              refine ⟨⟨hm520.at 0 rfl, hm520.at 1 rfl, hm520.at 2 rfl⟩, ?_⟩
              refine wpAnyH_done (by kernel_rfl) ?_ _
              exact ⟨rfl, g509, g502, g512, rfl, (Mm.reorder hm520 [0, 1, 2, 3, 5, 4, 6] (by decide) rfl)⟩
            · refine opd rfl rfl (m_alloc (c := ws 0) (T := 36) hm508 9 rfl (al_X rfl) (fun g521 w522 hm523 => ?_))
              refine ⟨⟨hm523.at 0 rfl, hm523.at 1 rfl, hm523.at 2 rfl⟩, ?_⟩
              simp only [e1, e2, e3]
              refine one_ready 6 (by kernel_rfl) ?_
              refine opd rfl rfl (m_alloc (c := ws 0) (T := 36) hm523 7 rfl (al_X rfl) (fun g524 w525 hm526 => ?_))
              refine ⟨⟨hm526.at 0 rfl, hm526.at 1 rfl, hm526.at 2 rfl⟩, ?_⟩
              simp only [e1, e2, e3]
              refine one_ready 9 (by kernel_rfl) ?_
              refine opd rfl rfl (m_store 6 36 _ _ (ws a) (old := ws 0) hm526 rfl rfl rfl rfl rfl (by rw [ws_sz]; exact info_x) ((ws_sz _).trans (ws_sz _).symm) (ws_one _) (fun w527 hm528 => ?_))
              refine ⟨⟨hm528.at 0 rfl, hm528.at 1 rfl, hm528.at 2 rfl⟩, ?_⟩
              refine one_ready 10 (by kernel_rfl) ?_
              refine opd rfl rfl (m_store 4 36 _ _ (ws b) (old := ws 0) hm528 rfl rfl rfl rfl rfl (by rw [ws_sz]; exact info_x) ((ws_sz _).trans (ws_sz _).symm) (ws_one _) (fun w529 hm530 => ?_))
              refine ⟨⟨hm530.at 0 rfl, hm530.at 1 rfl, hm530.at 2 rfl⟩, ?_⟩
              refine one_ready 11 (by kernel_rfl) ?_
              refine opd rfl rfl (m_store 5 36 _ _ (ws c) (old := ws 0) hm530 rfl rfl rfl rfl rfl (by rw [ws_sz]; exact info_x) ((ws_sz _).trans (ws_sz _).symm) (ws_one _) (fun w531 hm532 => ?_))
              refine ⟨⟨hm532.at 0 rfl, hm532.at 1 rfl, hm532.at 2 rfl⟩, ?_⟩
              refine wpAnyH_done (by kernel_rfl) ?_ _
              exact ⟨rfl, g524, g502, g521, rfl, (Mm.reorder hm532 [0, 1, 2, 3, 6, 4, 5] (by decide) rfl)⟩
          · refine opd rfl rfl (m_alloc (c := ws 0) (T := 36) hm506 7 rfl (al_X rfl) (fun g533 w534 hm535 => ?_))
            refine ⟨⟨hm535.at 0 rfl, hm535.at 1 rfl, hm535.at 2 rfl⟩, ?_⟩
            simp only [e1, e2, e3]
            refine two_ready 5 8 (by kernel_rfl) ?_ ?_
            · refine opd rfl rfl (m_call hm535 29 (.agg (ws c)) rfl (run_rwords rfl rfl) (rwords_any c _) (fun w536 hm537 => ?_))
              refine ⟨⟨hm537.at 0 rfl, hm537.at 1 rfl, hm537.at 2 rfl⟩, ?_⟩
              simp only [e1, e2, e3]
              refine one_ready 8 (by kernel_rfl) ?_
              refine opd rfl rfl (m_alloc (c := ws 0) (T := 36) hm537 9 rfl (al_X rfl) (fun g538 w539 hm540 => ?_))
              refine ⟨⟨hm540.at 0 rfl, hm540.at 1 rfl, hm540.at 2 rfl⟩, ?_⟩
              simp only [e1, e2, e3]
              refine one_ready 9 (by kernel_rfl) ?_
              refine opd rfl rfl (m_store 5 36 _ _ (ws a) (old := ws 0) hm540 rfl rfl rfl rfl rfl (by rw [ws_sz]; exact info_x) ((ws_sz _).trans (ws_sz _).symm) (ws_one _) (fun w541 hm542 => ?_))
              refine ⟨⟨hm542.at 0 rfl, hm542.at 1 rfl, hm542.at 2 rfl⟩, ?_⟩
              refine one_ready 10 (by kernel_rfl) ?_
              refine opd rfl rfl (m_store 4 36 _ _ (ws b) (old := ws 0) hm542 rfl rfl rfl rfl rfl (by rw [ws_sz]; exact info_x) ((ws_sz _).trans (ws_sz _).symm) (ws_one _) (fun w543 hm544 => ?_))
              refine ⟨⟨hm544.at 0 rfl, hm544.at 1 rfl, hm544.at 2 rfl⟩, ?_⟩
              refine one_ready 11 (by kernel_rfl) ?_
              refine opd rfl rfl (m_store 6 36 _ _ (ws c) (old := ws 0) hm544 rfl rfl rfl rfl rfl (by rw [ws_sz]; exact info_x) ((ws_sz _).trans (ws_sz _).symm) (ws_one _) (fun w545 hm546 => ?_))
              refine ⟨⟨hm546.at 0 rfl, hm546.at 1 rfl, hm546.at 2 rfl⟩, ?_⟩
              refine wpAnyH_done (by kernel_rfl) ?_ _
              exact ⟨rfl, g533, g502, g538, rfl, (Mm.reorder hm546 [0, 1, 2, 3, 5, 4, 6] (by decide) rfl)⟩
            · refine opd rfl rfl (m_alloc (c := ws 0) (T := 36) hm535 9 rfl (al_X rfl) (fun g547 w548 hm549 => ?_))
              refine ⟨⟨hm549.at 0 rfl, hm549.at 1 rfl, hm549.at 2 rfl⟩, ?_⟩
              simp only [e1, e2, e3]
              refine one_ready 5 (by kernel_rfl) ?_
              refine opd rfl rfl (m_call hm549 29 (.agg (ws c)) rfl (run_rwords rfl rfl) (rwords_any c _) (fun w550 hm551 => ?_))
              refine ⟨⟨hm551.at 0 rfl, hm551.at 1 rfl, hm551.at 2 rfl⟩, ?_⟩
              simp only [e1, e2, e3]
              refine one_ready 9 (by kernel_rfl) ?_
              refine opd rfl rfl (m_store 5 36 _ _ (ws a) (old := ws 0) hm551 rfl rfl rfl rfl rfl (by rw [ws_sz]; exact info_x) ((ws_sz _).trans (ws_sz _).symm) (ws_one _) (fun w552 hm553 => ?_))
              refine ⟨⟨hm553.at 0 rfl, hm553.at 1 rfl, hm553.at 2 rfl⟩, ?_⟩
              refine one_ready 10 (by kernel_rfl) ?_
              refine opd rfl rfl (m_store 4 36 _ _ (ws b) (old := ws 0) hm553 rfl rfl rfl rfl rfl (by rw [ws_sz]; exact info_x) ((ws_sz _).trans (ws_sz _).symm) (ws_one _) (fun w554 hm555 => ?_))
              refine ⟨⟨hm555.at 0 rfl, hm555.at 1 rfl, hm555.at 2 rfl⟩, ?_⟩
              refine one_ready 11 (by kernel_rfl) ?_
              refine opd rfl rfl (m_store 6 36 _ _ (ws c) (old := ws 0) hm555 rfl rfl rfl rfl rfl (by rw [ws_sz]; exact info_x) ((ws_sz _).trans (ws_sz _).symm) (ws_one _) (fun w556 hm557 => ?_))
              refine ⟨⟨hm557.at 0 rfl, hm557.at 1 rfl, hm557.at 2 rfl⟩, ?_⟩
              refine wpAnyH_done (by kernel_rfl) ?_ _
              exact ⟨rfl, g533, g502, g547, rfl, (Mm.reorder hm557 [0, 1, 2, 3, 5, 4, 6] (by decide) rfl)⟩
          · refine opd rfl rfl (m_alloc (c := ws 0) (T := 36) hm506 9 rfl (al_X rfl) (fun g558 w559 hm560 => ?_))
            refine ⟨⟨hm560.at 0 rfl, hm560.at 1 rfl, hm560.at 2 rfl⟩, ?_⟩
            simp only [e1, e2, e3]
            refine two_ready 5 6 (by kernel_rfl) ?_ ?_
            · refine opd rfl rfl (m_call hm560 29 (.agg (ws c)) rfl (run_rwords rfl rfl) (rwords_any c _) (fun w561 hm562 => ?_))
              refine ⟨⟨hm562.at 0 rfl, hm562.at 1 rfl, hm562.at 2 rfl⟩, ?_⟩
              simp only [e1, e2, e3]
              refine one_ready 6 (by kernel_rfl) ?_
              refine opd rfl rfl (m_alloc (c := ws 0) (T := 36) hm562 7 rfl (al_X rfl) (fun g563 w564 hm565 => ?_))
              refine ⟨⟨hm565.at 0 rfl, hm565.at 1 rfl, hm565.at 2 rfl⟩, ?_⟩
              simp only [e1, e2, e3]
              refine one_ready 9 (by kernel_rfl) ?_
              refine opd rfl rfl (m_store 6 36 _ _ (ws a) (old := ws 0) hm565 rfl rfl rfl rfl rfl (by rw [ws_sz]; exact info_x) ((ws_sz _).trans (ws_sz _).symm) (ws_one _) (fun w566 hm567 => ?_))
              refine ⟨⟨hm567.at 0 rfl, hm567.at 1 rfl, hm567.at 2 rfl⟩, ?_⟩
              refine one_ready 10 (by kernel_rfl) ?_
              refine opd rfl rfl (m_store 4 36 _ _ (ws b) (old := ws 0) hm567 rfl rfl rfl rfl rfl (by rw [ws_sz]; exact info_x) ((ws_sz _).trans (ws_sz _).symm) (ws_one _) (fun w568 hm569 => ?_))
              refine ⟨⟨hm569.at 0 rfl, hm569.at 1 rfl, hm569.at 2 rfl⟩, ?_⟩
              refine one_ready 11 (by kernel_rfl) ?_
              refine opd rfl rfl (m_store 5 36 _ _ (ws c) (old := ws 0) hm569 rfl rfl rfl rfl rfl (by rw [ws_sz]; exact info_x) ((ws_sz _).trans (ws_sz _).symm) (ws_one _) (fun w570 hm571 => ?_))
              refine ⟨⟨hm571.at 0 rfl, hm571.at 1 rfl, hm571.at 2 rfl⟩, ?_⟩
              refine wpAnyH_done (by kernel_rfl) ?_ _
              exact ⟨rfl, g563, g502, g558, rfl, (Mm.reorder hm571 [0, 1, 2, 3, 6, 4, 5] (by decide) rfl)⟩
            · refine opd rfl rfl (m_alloc (c := ws 0) (T := 36) hm560 7 rfl (al_X rfl) (fun g572 w573 hm574 => ?_))
              refine ⟨⟨hm574.at 0 rfl, hm574.at 1 rfl, hm574.at 2 rfl⟩, ?_⟩
              simp only [e1, e2, e3]
              refine one_ready 5 (by kernel_rfl) ?_
              refine opd rfl rfl (m_call hm574 29 (.agg (ws c)) rfl (run_rwords rfl rfl) (rwords_any c _) (fun w575 hm576 => ?_))
              refine ⟨⟨hm576.at 0 rfl, hm576.at 1 rfl, hm576.at 2 rfl⟩, ?_⟩
              simp only [e1, e2, e3]
              refine one_ready 9 (by kernel_rfl) ?_
              refine opd rfl rfl (m_store 6 36 _ _ (ws a) (old := ws 0) hm576 rfl rfl rfl rfl rfl (by rw [ws_sz]; exact info_x) ((ws_sz _).trans (ws_sz _).symm) (ws_one _) (fun w577 hm578 => ?_))
              refine ⟨⟨hm578.at 0 rfl, hm578.at 1 rfl, hm578.at 2 rfl⟩, ?_⟩
              refine one_ready 10 (by kernel_rfl) ?_
              refine opd rfl rfl (m_store 4 36 _ _ (ws b) (old := ws 0) hm578 rfl rfl rfl rfl rfl (by rw [ws_sz]; exact info_x) ((ws_sz _).trans (ws_sz _).symm) (ws_one _) (fun w579 hm580 => ?_))
              refine ⟨⟨hm580.at 0 rfl, hm580.at 1 rfl, hm580.at 2 rfl⟩, ?_⟩
              refine one_ready 11 (by kernel_rfl) ?_
              refine opd rfl rfl (m_store 5 36 _ _ (ws c) (old := ws 0) hm580 rfl rfl rfl rfl rfl (by rw [ws_sz]; exact info_x) ((ws_sz _).trans (ws_sz _).symm) (ws_one _) (fun w581 hm582 => ?_))
              refine ⟨⟨hm582.at 0 rfl, hm582.at 1 rfl, hm582.at 2 rfl⟩, ?_⟩
              refine wpAnyH_done (by kernel_rfl) ?_ _
              exact ⟨rfl, g572, g502, g558, rfl, (Mm.reorder hm582 [0, 1, 2, 3, 6, 4, 5] (by decide) rfl)⟩
        · refine opd rfl rfl (m_alloc (c := ws 0) (T := 36) hm504 7 rfl (al_X rfl) (fun g583 w584 hm585 => ?_))
          refine ⟨⟨hm585.at 0 rfl, hm585.at 1 rfl, hm585.at 2 rfl⟩, ?_⟩
          simp only [e1, e2, e3]
          refine two_ready 3 8 (by kernel_rfl) ?_ ?_
          · refine opd rfl rfl (m_call hm585 27 (.agg (ws b)) rfl (run_rwords rfl rfl) (rwords_any b _) (fun w586 hm587 => ?_))
            refine ⟨⟨hm587.at 0 rfl, hm587.at 1 rfl, hm587.at 2 rfl⟩, ?_⟩
            simp only [e1, e2, e3]
            refine two_ready 5 8 (by kernel_rfl) ?_ ?_
            · refine opd rfl rfl (m_call hm587 29 (.agg (ws c)) rfl (run_rwords rfl rfl) (rwords_any c _) (fun w588 hm589 => ?_))
              refine ⟨⟨hm589.at 0 rfl, hm589.at 1 rfl, hm589.at 2 rfl⟩, ?_⟩
              simp only [e1, e2, e3]
              refine one_ready 8 (by kernel_rfl) ?_
              refine opd rfl rfl (m_alloc (c := ws 0) (T := 36) hm589 9 rfl (al_X rfl) (fun g590 w591 hm592 => ?_))
              refine ⟨⟨hm592.at 0 rfl, hm592.at 1 rfl, hm592.at 2 rfl⟩, ?_⟩
              simp only [e1, e2, e3]
              refine one_ready 9 (by kernel_rfl) ?_
              refine opd rfl rfl (m_store 5 36 _ _ (ws a) (old := ws 0) hm592 rfl rfl rfl rfl rfl (by rw [ws_sz]; exact info_x) ((ws_sz _).trans (ws_sz _).symm) (ws_one _) (fun w593 hm594 => ?_))
              refine ⟨⟨hm594.at 0 rfl, hm594.at 1 rfl, hm594.at 2 rfl⟩, ?_⟩
              refine one_ready 10 (by kernel_rfl) ?_
              refine opd rfl rfl (m_store 4 36 _ _ (ws b) (old := ws 0) hm594 rfl rfl rfl rfl rfl (by rw [ws_sz]; exact info_x) ((ws_sz _).trans (ws_sz _).symm) (ws_one _) (fun w595 hm596 => ?_))
              refine ⟨⟨hm596.at 0 rfl, hm596.at 1 rfl, hm596.at 2 rfl⟩, ?_⟩
              refine one_ready 11 (by kernel_rfl) ?_
              refine opd rfl rfl (m_store 6 36 _ _ (ws c) (old := ws 0) hm596 rfl rfl rfl rfl rfl (by rw [ws_sz]; exact info_x) ((ws_sz _).trans (ws_sz _).symm) (ws_one _) (fun w597 hm598 => ?_))
              refine ⟨⟨hm598.at 0 rfl, hm598.at 1 rfl, hm598.at 2 rfl⟩, ?_⟩
              refine wpAnyH_done (by kernel_rfl) ?_ _
              exact ⟨rfl, g583, g502, g590, rfl, (Mm.reorder hm598 [0, 1, 2, 3, 5, 4, 6] (by decide) rfl)⟩
            · refine opd rfl rfl (m_alloc (c := ws 0) (T := 36) hm587 9 rfl (al_X rfl) (fun g599 w600 hm601 => ?_))
              refine ⟨⟨hm601.at 0 rfl, hm601.at 1 rfl, hm601.at 2 rfl⟩, ?_⟩
              simp only [e1, e2, e3]
              refine one_ready 5 (by kernel_rfl) ?_
              refine opd rfl rfl (m_call hm601 29 (.agg (ws c)) rfl (run_rwords rfl rfl) (rwords_any c _) (fun w602 hm603 => ?_))
              refine ⟨⟨hm603.at 0 rfl, hm603.at 1 rfl, hm603.at 2 rfl⟩, ?_⟩
              simp only [e1, e2, e3]
              refine one_ready 9 (by kernel_rfl) ?_
              refine opd rfl rfl (m_store 5 36 _ _ (ws a) (old := ws 0) hm603 rfl rfl rfl rfl rfl (by rw [ws_sz]; exact info_x) ((ws_sz _).trans (ws_sz _).symm) (ws_one _) (fun w604 hm605 => ?_))
              refine ⟨⟨hm605.at 0 rfl, hm605.at 1 rfl, hm605.at 2 rfl⟩, ?_⟩
              refine one_ready 10 (by kernel_rfl) ?_
              refine opd rfl rfl (m_store 4 36 _ _ (ws b) (old := ws 0) hm605 rfl rfl rfl rfl rfl (by rw [ws_sz]; exact info_x) ((ws_sz _).trans (ws_sz _).symm) (ws_one _) (fun w606 hm607 => ?_))
              refine ⟨⟨hm607.at 0 rfl, hm607.at 1 rfl, hm607.at 2 rfl⟩, ?_⟩
              refine one_ready 11 (by kernel_rfl) ?_
              refine opd rfl rfl (m_store 6 36 _ _ (ws c) (old := ws 0) hm607 rfl rfl rfl rfl rfl (by rw [ws_sz]; exact info_x) ((ws_sz _).trans (ws_sz _).symm) (ws_one _) (fun w608 hm609 => ?_))
              refine ⟨⟨hm609.at 0 rfl, hm609.at 1 rfl, hm609.at 2 rfl⟩, ?_⟩
              refine wpAnyH_done (by kernel_rfl) ?_ _
              exact ⟨rfl, g583, g502, g599, rfl, (Mm.reorder hm609 [0, 1, 2, 3, 5, 4, 6] (by decide) rfl)⟩
          · refine opd rfl rfl (m_alloc (c := ws 0) (T := 36) hm585 9 rfl (al_X rfl) (fun g610 w611 hm612 => ?_))
            refine ⟨⟨hm612.at 0 rfl, hm612.at 1 rfl, hm612.at 2 rfl⟩, ?_⟩
            simp only [e1, e2, e3]
            refine one_ready 3 (by kernel_rfl) ?_
            refine opd rfl rfl (m_call hm612 27 (.agg (ws b)) rfl (run_rwords rfl rfl) (rwords_any b _) (fun w613 hm614 => ?_))
            refine ⟨⟨hm614.at 0 rfl, hm614.at 1 rfl, hm614.at 2 rfl⟩, ?_⟩
            simp only [e1, e2, e3]
            refine one_ready 5 (by kernel_rfl) ?_
            refine opd rfl rfl (m_call hm614 29 (.agg (ws c)) rfl (run_rwords rfl rfl) (rwords_any c _) (fun w615 hm616 => ?_))
            refine ⟨⟨hm616.at 0 rfl, hm616.at 1 rfl, hm616.at 2 rfl⟩, ?_⟩
            simp only [e1, e2, e3]
            refine one_ready 9 (by kernel_rfl) ?_
            refine opd rfl rfl (m_store 5 36 _ _ (ws a) (old := ws 0) hm616 rfl rfl rfl rfl rfl (by rw [ws_sz]; exact info_x) ((ws_sz _).trans (ws_sz _).symm) (ws_one _) (fun w617 hm618 => ?_))
            refine ⟨⟨hm618.at 0 rfl, hm618.at 1 rfl, hm618.at 2 rfl⟩, ?_⟩
            refine one_ready 10 (by kernel_rfl) ?_
            refine opd rfl rfl (m_store 4 36 _ _ (ws b) (old := ws 0) hm618 rfl rfl rfl rfl rfl (by rw [ws_sz]; exact info_x) ((ws_sz _).trans (ws_sz _).symm) (ws_one _) (fun w619 hm620 => ?_))
            refine ⟨⟨hm620.at 0 rfl, hm620.at 1 rfl, hm620.at 2 rfl⟩, ?_⟩
            refine one_ready 11 (by kernel_rfl) ?_
            refine opd rfl rfl (m_store 6 36 _ _ (ws c) (old := ws 0) hm620 rfl rfl rfl rfl rfl (by rw [ws_sz]; exact info_x) ((ws_sz _).trans (ws_sz _).symm) (ws_one _) (fun w621 hm622 => ?_))
            refine ⟨⟨hm622.at 0 rfl, hm622.at 1 rfl, hm622.at 2 rfl⟩, ?_⟩
            refine wpAnyH_done (by kernel_rfl) ?_ _
            exact ⟨rfl, g583, g502, g610, rfl, (Mm.reorder hm622 [0, 1, 2, 3, 5, 4, 6] (by decide) rfl)⟩
        · refine opd rfl rfl (m_alloc (c := ws 0) (T := 36) hm504 9 rfl (al_X rfl) (fun g623 w624 hm625 => ?_))
          refine ⟨⟨hm625.at 0 rfl, hm625.at 1 rfl, hm625.at 2 rfl⟩, ?_⟩
          simp only [e1, e2, e3]
          refine two_ready 3 6 (by kernel_rfl) ?_ ?_
          · refine opd rfl rfl (m_call hm625 27 (.agg (ws b)) rfl (run_rwords rfl rfl) (rwords_any b _) (fun w626 hm627 => ?_))
            refine ⟨⟨hm627.at 0 rfl, hm627.at 1 rfl, hm627.at 2 rfl⟩, ?_⟩
            simp only [e1, e2, e3]
            refine two_ready 5 6 (by kernel_rfl) ?_ ?_
            · refine opd rfl rfl (m_call hm627 29 (.agg (ws c)) rfl (run_rwords rfl rfl) (rwords_any c _) (fun w628 hm629 => ?_))
              refine ⟨⟨hm629.at 0 rfl, hm629.at 1 rfl, hm629.at 2 rfl⟩, ?_⟩
              simp only [e1, e2, e3]
              refine one_ready 6 (by kernel_rfl) ?_
              refine opd rfl rfl (m_alloc (c := ws 0) (T := 36) hm629 7 rfl (al_X rfl) (fun g630 w631 hm632 => ?_))
              refine ⟨⟨hm632.at 0 rfl, hm632.at 1 rfl, hm632.at 2 rfl⟩, ?_⟩
              simp only [e1, e2, e3]
              refine one_ready 9 (by kernel_rfl) ?_
              refine opd rfl rfl (m_store 6 36 _ _ (ws a) (old := ws 0) hm632 rfl rfl rfl rfl rfl (by rw [ws_sz]; exact info_x) ((ws_sz _).trans (ws_sz _).symm) (ws_one _) (fun w633 hm634 => ?_))
              refine ⟨⟨hm634.at 0 rfl, hm634.at 1 rfl, hm634.at 2 rfl⟩, ?_⟩
              refine one_ready 10 (by kernel_rfl) ?_
              refine opd rfl rfl (m_store 4 36 _ _ (ws b) (old := ws 0) hm634 rfl rfl rfl rfl rfl (by rw [ws_sz]; exact info_x) ((ws_sz _).trans (ws_sz _).symm) (ws_one _) (fun w635 hm636 => ?_))
              refine ⟨⟨hm636.at 0 rfl, hm636.at 1 rfl, hm636.at 2 rfl⟩, ?_⟩
              refine one_ready 11 (by kernel_rfl) ?_
              refine opd rfl rfl (m_store 5 36 _ _ (ws c) (old := ws 0) hm636 rfl rfl rfl rfl rfl (by rw [ws_sz]; exact info_x) ((ws_sz _).trans (ws_sz _).symm) (ws_one _) (fun w637 hm638 => ?_))
              refine ⟨⟨hm638.at 0 rfl, hm638.at 1 rfl, hm638.at 2 rfl⟩, ?_⟩
              refine wpAnyH_done (by kernel_rfl) ?_ _
              exact ⟨rfl, g630, g502, g623, rfl, (Mm.reorder hm638 [0, 1, 2, 3, 6, 4, 5] (by decide) rfl)⟩
            · refine opd rfl rfl (m_alloc (c := ws 0) (T := 36) hm627 7 rfl (al_X rfl) (fun g639 w640 hm641 => ?_))
              refine ⟨⟨hm641.at 0 rfl, hm641.at 1 rfl, hm641.at 2 rfl⟩, ?_⟩
              simp only [e1, e2, e3]
              refine one_ready 5 (by kernel_rfl) ?_
              refine opd rfl rfl (m_call hm641 29 (.agg (ws c)) rfl (run_rwords rfl rfl) (rwords_any c _) (fun w642 hm643 => ?_))
              refine ⟨⟨hm643.at 0 rfl, hm643.at 1 rfl, hm643.at 2 rfl⟩, ?_⟩
              simp only [e1, e2, e3]
              refine one_ready 9 (by kernel_rfl) ?_
              refine opd rfl rfl (m_store 6 36 _ _ (ws a) (old := ws 0) hm643 rfl rfl rfl rfl rfl (by rw [ws_sz]; exact info_x) ((ws_sz _).trans (ws_sz _).symm) (ws_one _) (fun w644 hm645 => ?_))
              refine ⟨⟨hm645.at 0 rfl, hm645.at 1 rfl, hm645.at 2 rfl⟩, ?_⟩
              refine one_ready 10 (by kernel_rfl) ?_
              refine opd rfl rfl (m_store 4 36 _ _ (ws b) (old := ws 0) hm645 rfl rfl rfl rfl rfl (by rw [ws_sz]; exact info_x) ((ws_sz _).trans (ws_sz _).symm) (ws_one _) (fun w646 hm647 => ?_))
              refine ⟨⟨hm647.at 0 rfl, hm647.at 1 rfl, hm647.at 2 rfl⟩, ?_⟩
              refine one_ready 11 (by kernel_rfl) ?_
              refine opd rfl rfl (m_store 5 36 _ _ (ws c) (old := ws 0) hm647 rfl rfl rfl rfl rfl (by rw [ws_sz]; exact info_x) ((ws_sz _).trans (ws_sz _).symm) (ws_one _) (fun w648 hm649 => ?_))
              refine ⟨⟨hm649.at 0 rfl, hm649.at 1 rfl, hm649.at 2 rfl⟩, ?_⟩
              refine wpAnyH_done (by kernel_rfl) ?_ _
              exact ⟨rfl, g639, g502, g623, rfl, (Mm.reorder hm649 [0, 1, 2, 3, 6, 4, 5] (by decide) rfl)⟩
          · refine opd rfl rfl (m_alloc (c := ws 0) (T := 36) hm625 7 rfl (al_X rfl) (fun g650 w651 hm652 => ?_))
            refine ⟨⟨hm652.at 0 rfl, hm652.at 1 rfl, hm652.at 2 rfl⟩, ?_⟩
            simp only [e1, e2, e3]
            refine one_ready 3 (by kernel_rfl) ?_
            refine opd rfl rfl (m_call hm652 27 (.agg (ws b)) rfl (run_rwords rfl rfl) (rwords_any b _) (fun w653 hm654 => ?_))
            refine ⟨⟨hm654.at 0 rfl, hm654.at 1 rfl, hm654.at 2 rfl⟩, ?_⟩
            simp only [e1, e2, e3]
            refine one_ready 5 (by kernel_rfl) ?_
            refine opd rfl rfl (m_call hm654 29 (.agg (ws c)) rfl (run_rwords rfl rfl) (rwords_any c _) (fun w655 hm656 => ?_))
            refine ⟨⟨hm656.at 0 rfl, hm656.at 1 rfl, hm656.at 2 rfl⟩, ?_⟩
            simp only [e1, e2, e3]
            refine one_ready 9 (by kernel_rfl) ?_
            refine opd rfl rfl (m_store 6 36 _ _ (ws a) (old := ws 0) hm656 rfl rfl rfl rfl rfl (by rw [ws_sz]; exact info_x) ((ws_sz _).trans (ws_sz _).symm) (ws_one _) (fun w657 hm658 => ?_))
            refine ⟨⟨hm658.at 0 rfl, hm658.at 1 rfl, hm658.at 2 rfl⟩, ?_⟩
            refine one_ready 10 (by kernel_rfl) ?_
            refine opd rfl rfl (m_store 4 36 _ _ (ws b) (old := ws 0) hm658 rfl rfl rfl rfl rfl (by rw [ws_sz]; exact info_x) ((ws_sz _).trans (ws_sz _).symm) (ws_one _) (fun w659 hm660 => ?_))
            refine ⟨⟨hm660.at 0 rfl, hm660.at 1 rfl, hm660.at 2 rfl⟩, ?_⟩
            refine one_ready 11 (by kernel_rfl) ?_
            refine opd rfl rfl (m_store 5 36 _ _ (ws c) (old := ws 0) hm660 rfl rfl rfl rfl rfl (by rw [ws_sz]; exact info_x) ((ws_sz _).trans (ws_sz _).symm) (ws_one _) (fun w661 hm662 => ?_))
            refine ⟨⟨hm662.at 0 rfl, hm662.at 1 rfl, hm662.at 2 rfl⟩, ?_⟩
            refine wpAnyH_done (by kernel_rfl) ?_ _
            exact ⟨rfl, g650, g502, g623, rfl, (Mm.reorder hm662 [0, 1, 2, 3, 6, 4, 5] (by decide) rfl)⟩
      · refine opd rfl rfl (m_alloc (c := ws 0) (T := 36) hm18 9 rfl (al_X rfl) (fun g663 w664 hm665 => ?_))
        refine ⟨⟨hm665.at 0 rfl, hm665.at 1 rfl, hm665.at 2 rfl⟩, ?_⟩
        simp only [e1, e2, e3]
        refine three_ready 3 6 7 (by kernel_rfl) ?_ ?_ ?_
        · refine opd rfl rfl (m_call hm665 27 (.agg (ws b)) rfl (run_rwords rfl rfl) (rwords_any b _) (fun w666 hm667 => ?_))
          refine ⟨⟨hm667.at 0 rfl, hm667.at 1 rfl, hm667.at 2 rfl⟩, ?_⟩
          simp only [e1, e2, e3]
          refine three_ready 5 6 7 (by kernel_rfl) ?_ ?_ ?_
          · refine opd rfl rfl (m_call hm667 29 (.agg (ws c)) rfl (run_rwords rfl rfl) (rwords_any c _) (fun w668 hm669 => ?_))
            refine ⟨⟨hm669.at 0 rfl, hm669.at 1 rfl, hm669.at 2 rfl⟩, ?_⟩
            simp only [e1, e2, e3]
            refine two_ready 6 7 (by kernel_rfl) ?_ ?_
            · refine opd rfl rfl (m_alloc (c := ws 0) (T := 36) hm669 7 rfl (al_X rfl) (fun g670 w671 hm672 => ?_))
              refine ⟨⟨hm672.at 0 rfl, hm672.at 1 rfl, hm672.at 2 rfl⟩, ?_⟩
              simp only [e1, e2, e3]
              refine one_ready 7 (by kernel_rfl) ?_
              refine opd rfl rfl (m_alloc (c := ws 0) (T := 36) hm672 8 rfl (al_X rfl) (fun g673 w674 hm675 => ?_))
              refine ⟨⟨hm675.at 0 rfl, hm675.at 1 rfl, hm675.at 2 rfl⟩, ?_⟩
              simp only [e1, e2, e3]
              refine one_ready 9 (by kernel_rfl) ?_
              refine opd rfl rfl (m_store 5 36 _ _ (ws a) (old := ws 0) hm675 rfl rfl rfl rfl rfl (by rw [ws_sz]; exact info_x) ((ws_sz _).trans (ws_sz _).symm) (ws_one _) (fun w676 hm677 => ?_))
              refine ⟨⟨hm677.at 0 rfl, hm677.at 1 rfl, hm677.at 2 rfl⟩, ?_⟩
              refine one_ready 10 (by kernel_rfl) ?_
              refine opd rfl rfl (m_store 6 36 _ _ (ws b) (old := ws 0) hm677 rfl rfl rfl rfl rfl (by rw [ws_sz]; exact info_x) ((ws_sz _).trans (ws_sz _).symm) (ws_one _) (fun w678 hm679 => ?_))
              refine ⟨⟨hm679.at 0 rfl, hm679.at 1 rfl, hm679.at 2 rfl⟩, ?_⟩
              refine one_ready 11 (by kernel_rfl) ?_
              refine opd rfl rfl (m_store 4 36 _ _ (ws c) (old := ws 0) hm679 rfl rfl rfl rfl rfl (by rw [ws_sz]; exact info_x) ((ws_sz _).trans (ws_sz _).symm) (ws_one _) (fun w680 hm681 => ?_))
              refine ⟨⟨hm681.at 0 rfl, hm681.at 1 rfl, hm681.at 2 rfl⟩, ?_⟩
              refine wpAnyH_done (by kernel_rfl) ?_ _
              exact ⟨rfl, g670, g673, g663, rfl, (Mm.reorder hm681 [0, 1, 2, 3, 5, 6, 4] (by decide) rfl)⟩
            · refine opd rfl rfl (m_alloc (c := ws 0) (T := 36) hm669 8 rfl (al_X rfl) (fun g682 w683 hm684 => ?_))
              refine ⟨⟨hm684.at 0 rfl, hm684.at 1 rfl, hm684.at 2 rfl⟩, ?_⟩
              simp only [e1, e2, e3]
              refine one_ready 6 (by kernel_rfl) ?_
              refine opd rfl rfl (m_alloc (c := ws 0) (T := 36) hm684 7 rfl (al_X rfl) (fun g685 w686 hm687 => ?_))
              refine ⟨⟨hm687.at 0 rfl, hm687.at 1 rfl, hm687.at 2 rfl⟩, ?_⟩
              simp only [e1, e2, e3]
              refine one_ready 9 (by kernel_rfl) ?_
              refine opd rfl rfl (m_store 6 36 _ _ (ws a) (old := ws 0) hm687 rfl rfl rfl rfl rfl (by rw [ws_sz]; exact info_x) ((ws_sz _).trans (ws_sz _).symm) (ws_one _) (fun w688 hm689 => ?_))
              refine ⟨⟨hm689.at 0 rfl, hm689.at 1 rfl, hm689.at 2 rfl⟩, ?_⟩
              refine one_ready 10 (by kernel_rfl) ?_
              refine opd rfl rfl (m_store 5 36 _ _ (ws b) (old := ws 0) hm689 rfl rfl rfl rfl rfl (by rw [ws_sz]; exact info_x) ((ws_sz _).trans (ws_sz _).symm) (ws_one _) (fun w690 hm691 => ?_))
              refine ⟨⟨hm691.at 0 rfl, hm691.at 1 rfl, hm691.at 2 rfl⟩, ?_⟩
              refine one_ready 11 (by kernel_rfl) ?_
              refine opd rfl rfl (m_store 4 36 _ _ (ws c) (old := ws 0) hm691 rfl rfl rfl rfl rfl (by rw [ws_sz]; exact info_x) ((ws_sz _).trans (ws_sz _).symm) (ws_one _) (fun w692 hm693 => ?_))
              refine ⟨⟨hm693.at 0 rfl, hm693.at 1 rfl, hm693.at 2 rfl⟩, ?_⟩
              refine wpAnyH_done (by kernel_rfl) ?_ _
              exact ⟨rfl, g685, g682, g663, rfl, (Mm.reorder hm693 [0, 1, 2, 3, 6, 5, 4] (by decide) rfl)⟩
          · refine opd rfl rfl (m_alloc (c := ws 0) (T := 36) hm667 7 rfl (al_X rfl) (fun g694 w695 hm696 => ?_))
            refine ⟨⟨hm696.at 0 rfl, hm696.at 1 rfl, hm696.at 2 rfl⟩, ?_⟩
            simp only [e1, e2, e3]
            refine two_ready 5 7 (by kernel_rfl) ?_ ?_
            · refine opd rfl rfl (m_call hm696 29 (.agg (ws c)) rfl (run_rwords rfl rfl) (rwords_any c _) (fun w697 hm698 => ?_))
              refine ⟨⟨hm698.at 0 rfl, hm698.at 1 rfl, hm698.at 2 rfl⟩, ?_⟩
              simp only [e1, e2, e3]
              refine one_ready 7 (by kernel_rfl) ?_
              refine opd rfl rfl (m_alloc (c := ws 0) (T := 36) hm698 8 rfl (al_X rfl) (fun g699 w700 hm701 => ?_))
              refine ⟨⟨hm701.at 0 rfl, hm701.at 1 rfl, hm701.at 2 rfl⟩, ?_⟩
              simp only [e1, e2, e3]
              refine one_ready 9 (by kernel_rfl) ?_
              refine opd rfl rfl (m_store 5 36 _ _ (ws a) (old := ws 0) hm701 rfl rfl rfl rfl rfl (by rw [ws_sz]; exact info_x) ((ws_sz _).trans (ws_sz _).symm) (ws_one _) (fun w702 hm703 => ?_))
              refine ⟨⟨hm703.at 0 rfl, hm703.at 1 rfl, hm703.at 2 rfl⟩, ?_⟩
              refine one_ready 10 (by kernel_rfl) ?_
              refine opd rfl rfl (m_store 6 36 _ _ (ws b) (old := ws 0) hm703 rfl rfl rfl rfl rfl (by rw [ws_sz]; exact info_x) ((ws_sz _).trans (ws_sz _).symm) (ws_one _) (fun w704 hm705 => ?_))
              refine ⟨⟨hm705.at 0 rfl, hm705.at 1 rfl, hm705.at 2 rfl⟩, ?_⟩
              refine one_ready 11 (by kernel_rfl) ?_
              refine opd rfl rfl (m_store 4 36 _ _ (ws c) (old := ws 0) hm705 rfl rfl rfl rfl rfl (by rw [ws_sz]; exact info_x) ((ws_sz _).trans (ws_sz _).symm) (ws_one _) (fun w706 hm707 => ?_))
              refine ⟨⟨hm707.at 0 rfl, hm707.at 1 rfl, hm707.at 2 rfl⟩, ?_⟩
              refine wpAnyH_done (by kernel_rfl) ?_ _
              exact ⟨rfl, g694, g699, g663, rfl, (Mm.reorder hm707 [0, 1, 2, 3, 5, 6, 4] (by decide) rfl)⟩
            · refine opd rfl rfl (m_alloc (c := ws 0) (T := 36) hm696 8 rfl (al_X rfl) (fun g708 w709 hm710 => ?_))
              refine ⟨⟨hm710.at 0 rfl, hm710.at 1 rfl, hm710.at 2 rfl⟩, ?_⟩
              simp only [e1, e2, e3]
              refine one_ready 5 (by kernel_rfl) ?_
              refine opd rfl rfl (m_call hm710 29 (.agg (ws c)) rfl (run_rwords rfl rfl) (rwords_any c _) (fun w711 hm712 => ?_))
              refine ⟨⟨hm712.at 0 rfl, hm712.at 1 rfl, hm712.at 2 rfl⟩, ?_⟩
              simp only [e1, e2, e3]
              refine one_ready 9 (by kernel_rfl) ?_
              refine opd rfl rfl (m_store 5 36 _ _ (ws a) (old := ws 0) hm712 rfl rfl rfl rfl rfl (by rw [ws_sz]; exact info_x) ((ws_sz _).trans (ws_sz _).symm) (ws_one _) (fun w713 hm714 => ?_))
              refine ⟨⟨hm714.at 0 rfl, hm714.at 1 rfl, hm714.at 2 rfl⟩, ?_⟩
              refine one_ready 10 (by kernel_rfl) ?_
              refine opd rfl rfl (m_store 6 36 _ _ (ws b) (old := ws 0) hm714 rfl rfl rfl rfl rfl (by rw [ws_sz]; exact info_x) ((ws_sz _).trans (ws_sz _).symm) (ws_one _) (fun w715 hm716 => ?_))
              refine ⟨⟨hm716.at 0 rfl, hm716.at 1 rfl, hm716.at 2 rfl⟩, ?_⟩
              refine one_ready 11 (by kernel_rfl) ?_
              refine opd rfl rfl (m_store 4 36 _ _ (ws c) (old := ws 0) hm716 rfl rfl rfl rfl rfl (by rw [ws_sz]; exact info_x) ((ws_sz _).trans (ws_sz _).symm) (ws_one _) (fun w717 hm718 => ?_))
              refine ⟨⟨hm718.at 0 rfl, hm718.at 1 rfl, hm718.at 2 rfl⟩, ?_⟩
              refine wpAnyH_done (by kernel_rfl) ?_ _
              exact ⟨rfl, g694, g708, g663, rfl, (Mm.reorder hm718 [0, 1, 2, 3, 5, 6, 4] (by decide) rfl)⟩
          · refine opd rfl rfl (m_alloc (c := ws 0) (T := 36) hm667 8 rfl (al_X rfl) (fun g719 w720 hm721 => ?_))
            refine ⟨⟨hm721.at 0 rfl, hm721.at 1 rfl, hm721.at 2 rfl⟩, ?_⟩
            simp only [e1, e2, e3]
            refine two_ready 5 6 (by kernel_rfl) ?_ ?_
            · refine opd rfl rfl (m_call hm721 29 (.agg (ws c)) rfl (run_rwords rfl rfl) (rwords_any c _) (fun w722 hm723 => ?_))
              refine ⟨⟨hm723.at 0 rfl, hm723.at 1 rfl, hm723.at 2 rfl⟩, ?_⟩
              simp only [e1, e2, e3]
              refine one_ready 6 (by kernel_rfl) ?_
              refine opd rfl rfl (m_alloc (c := ws 0) (T := 36) hm723 7 rfl (al_X rfl) (fun g724 w725 hm726 => ?_))
              refine ⟨⟨hm726.at 0 rfl, hm726.at 1 rfl, hm726.at 2 rfl⟩, ?_⟩
              simp only [e1, e2, e3]
              refine one_ready 9 (by kernel_rfl) ?_
              refine opd rfl rfl (m_store 6 36 _ _ (ws a) (old := ws 0) hm726 rfl rfl rfl rfl rfl (by rw [ws_sz]; exact info_x) ((ws_sz _).trans (ws_sz _).symm) (ws_one _) (fun w727 hm728 => ?_))
              refine ⟨⟨hm728.at 0 rfl, hm728.at 1 rfl, hm728.at 2 rfl⟩, ?_⟩
              refine one_ready 10 (by kernel_rfl) ?_
              refine opd rfl rfl (m_store 5 36 _ _ (ws b) (old := ws 0) hm728 rfl rfl rfl rfl rfl (by rw [ws_sz]; exact info_x) ((ws_sz _).trans (ws_sz _).symm) (ws_one _) (fun w729 hm730 => ?_))
              refine ⟨⟨hm730.at 0 rfl, hm730.at 1 rfl, hm730.at 2 rfl⟩, ?_⟩
              refine one_ready 11 (by kernel_rfl) ?_
              refine opd rfl rfl (m_store 4 36 _ _ (ws c) (old := ws 0) hm730 rfl rfl rfl rfl rfl (by rw [ws_sz]; exact info_x) ((ws_sz _).trans (ws_sz _).symm) (ws_one _) (fun w731 hm732 => ?_))
              refine ⟨⟨hm732.at 0 rfl, hm732.at 1 rfl, hm732.at 2 rfl⟩, ?_⟩
              refine wpAnyH_done (by kernel_rfl) ?_ _
              exact ⟨rfl, g724, g719, g663, rfl, (Mm.reorder hm732 [0, 1, 2, 3, 6, 5, 4] (by decide) rfl)⟩
            · refine opd rfl rfl (m_alloc (c := ws 0) (T := 36) hm721 7 rfl (al_X rfl) (fun g733 w734 hm735 => ?_))
              refine ⟨⟨hm735.at 0 rfl, hm735.at 1 rfl, hm735.at 2 rfl⟩, ?_⟩
              simp only [e1, e2, e3]
              refine one_ready 5 (by kernel_rfl) ?_
              refine opd rfl rfl (m_call hm735 29 (.agg (ws c)) rfl (run_rwords rfl rfl) (rwords_any c _) (fun w736 hm737 => ?_))
              refine ⟨⟨hm737.at 0 rfl, hm737.at 1 rfl, hm737.at 2 rfl⟩, ?_⟩
              simp only [e1, e2, e3]
              refine one_ready 9 (by kernel_rfl) ?_
              refine opd rfl rfl (m_store 6 36 _ _ (ws a) (old := ws 0) hm737 rfl rfl rfl rfl rfl (by rw [ws_sz]; exact info_x) ((ws_sz _).trans (ws_sz _).symm) (ws_one _) (fun w738 hm739 => ?_))
              refine ⟨⟨hm739.at 0 rfl, hm739.at 1 rfl, hm739.at 2 rfl⟩, ?_⟩
              refine one_ready 10 (by kernel_rfl) ?_
              refine opd rfl rfl (m_store 5 36 _ _ (ws b) (old := ws 0) hm739 rfl rfl rfl rfl rfl (by rw [ws_sz]; exact info_x) ((ws_sz _).trans (ws_sz _).symm) (ws_one _) (fun w740 hm741 => ?_))
              refine ⟨⟨hm741.at 0 rfl, hm741.at 1 rfl, hm741.at 2 rfl⟩, ?_⟩
              refine one_ready 11 (by kernel_rfl) ?_
              refine opd rfl rfl (m_store 4 36 _ _ (ws c) (old := ws 0) hm741 rfl rfl rfl rfl rfl (by rw [ws_sz]; exact info_x) ((ws_sz _).trans (ws_sz _).symm) (ws_one _) (fun w742 hm743 => ?_))
              refine ⟨⟨hm743.at 0 rfl, hm743.at 1 rfl, hm743.at 2 rfl⟩, ?_⟩
              refine wpAnyH_done (by kernel_rfl) ?_ _
              exact ⟨rfl, g733, g719, g663, rfl, (Mm.reorder hm743 [0, 1, 2, 3, 6, 5, 4] (by decide) rfl)⟩
        · refine opd rfl rfl (m_alloc (c := ws 0) (T := 36) hm665 7 rfl (al_X rfl) (fun g744 w745 hm746 => ?_))
          refine ⟨⟨hm746.at 0 rfl, hm746.at 1 rfl, hm746.at 2 rfl⟩, ?_⟩
          simp only [e1, e2, e3]
          refine two_ready 3 7 (by kernel_rfl) ?_ ?_
          · refine opd rfl rfl (m_call hm746 27 (.agg (ws b)) rfl (run_rwords rfl rfl) (rwords_any b _) (fun w747 hm748 => ?_))
            refine ⟨⟨hm748.at 0 rfl, hm748.at 1 rfl, hm748.at 2 rfl⟩, ?_⟩
            simp only [e1, e2, e3]
            refine two_ready 5 7 (by kernel_rfl) ?_ ?_
            · refine opd rfl rfl (m_call hm748 29 (.agg (ws c)) rfl (run_rwords rfl rfl) (rwords_any c _) (fun w749 hm750 => ?_))
              refine ⟨⟨hm750.at 0 rfl, hm750.at 1 rfl, hm750.at 2 rfl⟩, ?_⟩
              simp only [e1, e2, e3]
              refine one_ready 7 (by kernel_rfl) ?_
              refine opd rfl rfl (m_alloc (c := ws 0) (T := 36) hm750 8 rfl (al_X rfl) (fun g751 w752 hm753 => ?_))
              refine ⟨⟨hm753.at 0 rfl, hm753.at 1 rfl, hm753.at 2 rfl⟩, ?_⟩
              simp only [e1, e2, e3]
              refine one_ready 9 (by kernel_rfl) ?_
              refine opd rfl rfl (m_store 5 36 _ _ (ws a) (old := ws 0) hm753 rfl rfl rfl rfl rfl (by rw [ws_sz]; exact info_x) ((ws_sz _).trans (ws_sz _).symm) (ws_one _) (fun w754 hm755 => ?_))
              refine ⟨⟨hm755.at 0 rfl, hm755.at 1 rfl, hm755.at 2 rfl⟩, ?_⟩
              refine one_ready 10 (by kernel_rfl) ?_
              refine opd rfl rfl (m_store 6 36 _ _ (ws b) (old := ws 0) hm755 rfl rfl rfl rfl rfl (by rw [ws_sz]; exact info_x) ((ws_sz _).trans (ws_sz _).symm) (ws_one _) (fun w756 hm757 => ?_))
              refine ⟨⟨hm757.at 0 rfl, hm757.at 1 rfl, hm757.at 2 rfl⟩, ?_⟩
              refine one_ready 11 (by kernel_rfl) ?_
              refine opd rfl rfl (m_store 4 36 _ _ (ws c) (old := ws 0) hm757 rfl rfl rfl rfl rfl (by rw [ws_sz]; exact info_x) ((ws_sz _).trans (ws_sz _).symm) (ws_one _) (fun w758 hm759 => ?_))
              refine ⟨⟨hm759.at 0 rfl, hm759.at 1 rfl, hm759.at 2 rfl⟩, ?_⟩
              refine wpAnyH_done (by kernel_rfl) ?_ _
              exact ⟨rfl, g744, g751, g663, rfl, (Mm.reorder hm759 [0, 1, 2, 3, 5, 6, 4] (by decide) rfl)⟩
            · refine opd rfl rfl (m_alloc (c := ws 0) (T := 36) hm748 8 rfl (al_X rfl) (fun g760 w761 hm762 => ?_))
              refine ⟨⟨hm762.at 0 rfl, hm762.at 1 rfl, hm762.at 2 rfl⟩, ?_⟩
              simp only [e1, e2, e3]
              refine one_ready 5 (by kernel_rfl) ?_
              refine opd rfl rfl (m_call hm762 29 (.agg (ws c)) rfl (run_rwords rfl rfl) (rwords_any c _) (fun w763 hm764 => ?_))
              refine ⟨⟨hm764.at 0 rfl, hm764.at 1 rfl, hm764.at 2 rfl⟩, ?_⟩
              simp only [e1, e2, e3]
              refine one_ready 9 (by kernel_rfl) ?_
              refine opd rfl rfl (m_store 5 36 _ _ (ws a) (old := ws 0) hm764 rfl rfl rfl rfl rfl (by rw [ws_sz]; exact info_x) ((ws_sz _).trans (ws_sz _).symm) (ws_one _) (fun w765 hm766 => ?_))
              refine ⟨⟨hm766.at 0 rfl, hm766.at 1 rfl, hm766.at 2 rfl⟩, ?_⟩
              refine one_ready 10 (by kernel_rfl) ?_
              refine opd rfl rfl (m_store 6 36 _ _ (ws b) (old := ws 0) hm766 rfl rfl rfl rfl rfl (by rw [ws_sz]; exact info_x) ((ws_sz _).trans (ws_sz _).symm) (ws_one _) (fun w767 hm768 => ?_))
              refine ⟨⟨hm768.at 0 rfl, hm768.at 1 rfl, hm768.at 2 rfl⟩, ?_⟩
              refine one_ready 11 (by kernel_rfl) ?_
              refine opd rfl rfl (m_store 4 36 _ _ (ws c) (old := ws 0) hm768 rfl rfl rfl rfl rfl (by rw [ws_sz]; exact info_x) ((ws_sz _).trans (ws_sz _).symm) (ws_one _) (fun w769 hm770 => ?_))
              refine ⟨⟨hm770.at 0 rfl, hm770.at 1 rfl, hm770.at 2 rfl⟩, ?_⟩
              refine wpAnyH_done (by kernel_rfl) ?_ _
              exact ⟨rfl, g744, g760, g663, rfl, (Mm.reorder hm770 [0, 1, 2, 3, 5, 6, 4] (by decide) rfl)⟩
          · refine opd rfl rfl (m_alloc (c := ws 0) (T := 36) hm746 8 rfl (al_X rfl) (fun g771 w772 hm773 => ?_))
            refine ⟨⟨hm773.at 0 rfl, hm773.at 1 rfl, hm773.at 2 rfl⟩, ?_⟩
            simp only [e1, e2, e3]
            refine one_ready 3 (by kernel_rfl) ?_
            refine opd rfl rfl (m_call hm773 27 (.agg (ws b)) rfl (run_rwords rfl rfl) (rwords_any b _) (fun w774 hm775 => ?_))
            refine ⟨⟨hm775.at 0 rfl, hm775.at 1 rfl, hm775.at 2 rfl⟩, ?_⟩
            simp only [e1, e2, e3]
            refine one_ready 5 (by kernel_rfl) ?_
            refine opd rfl rfl (m_call hm775 29 (.agg (ws c)) rfl (run_rwords rfl rfl) (rwords_any c _) (fun w776 hm777 => ?_))
            refine ⟨⟨hm777.at 0 rfl, hm777.at 1 rfl, hm777.at 2 rfl⟩, ?_⟩
            simp only [e1, e2, e3]
            refine one_ready 9 (by kernel_rfl) ?_
            refine opd rfl rfl (m_store 5 36 _ _ (ws a) (old := ws 0) hm777 rfl rfl rfl rfl rfl (by rw [ws_sz]; exact info_x) ((ws_sz _).trans (ws_sz _).symm) (ws_one _) (fun w778 hm779 => ?_))
            refine ⟨⟨hm779.at 0 rfl, hm779.at 1 rfl, hm779.at 2 rfl⟩, ?_⟩
            refine one_ready 10 (by kernel_rfl) ?_
            refine opd rfl rfl (m_store 6 36 _ _ (ws b) (old := ws 0) hm779 rfl rfl rfl rfl rfl (by rw [ws_sz]; exact info_x) ((ws_sz _).trans (ws_sz _).symm) (ws_one _) (fun w780 hm781 => ?_))
            refine ⟨⟨hm781.at 0 rfl, hm781.at 1 rfl, hm781.at 2 rfl⟩, ?_⟩
            refine one_ready 11 (by kernel_rfl) ?_
            refine opd rfl rfl (m_store 4 36 _ _ (ws c) (old := ws 0) hm781 rfl rfl rfl rfl rfl (by rw [ws_sz]; exact info_x) ((ws_sz _).trans (ws_sz _).symm) (ws_one _) (fun w782 hm783 => ?_))
            refine ⟨⟨hm783.at 0 rfl, hm783.at 1 rfl, hm783.at 2 rfl⟩, ?_⟩
            refine wpAnyH_done (by kernel_rfl) ?_ _
            exact ⟨rfl, g744, g771, g663, rfl, (Mm.reorder hm783 [0, 1, 2, 3, 5, 6, 4] (by decide) rfl)⟩
        · refine opd rfl rfl (m_alloc (c := ws 0) (T := 36) hm665 8 rfl (al_X rfl) (fun g784 w785 hm786 => ?_))
          refine ⟨⟨hm786.at 0 rfl, hm786.at 1 rfl, hm786.at 2 rfl⟩, ?_⟩
          simp only [e1, e2, e3]
          refine two_ready 3 6 (by kernel_rfl) ?_ ?_
          · refine opd rfl rfl (m_call hm786 27 (.agg (ws b)) rfl (run_rwords rfl rfl) (rwords_any b _) (fun w787 hm788 => ?_))
            refine ⟨⟨hm788.at 0 rfl, hm788.at 1 rfl, hm788.at 2 rfl⟩, ?_⟩
            simp only [e1, e2, e3]
            refine two_ready 5 6 (by kernel_rfl) ?_ ?_
            · refine opd rfl rfl (m_call hm788 29 (.agg (ws c)) rfl (run_rwords rfl rfl) (rwords_any c _) (fun w789 hm790 => ?_))
              refine ⟨⟨hm790.at 0 rfl, hm790.at 1 rfl, hm790.at 2 rfl⟩, ?_⟩
              simp only [e1, e2, e3]
              refine one_ready 6 (by kernel_rfl) ?_
              refine opd rfl rfl (m_alloc (c := ws 0) (T := 36) hm790 7 rfl (al_X rfl) (fun g791 w792 hm793 => ?_))
              refine ⟨⟨hm793.at 0 rfl, hm793.at 1 rfl, hm793.at 2 rfl⟩, ?_⟩
              simp only [e1, e2, e3]
              refine one_ready 9 (by kernel_rfl) ?_
              refine opd rfl rfl (m_store 6 36 _ _ (ws a) (old := ws 0) hm793 rfl rfl rfl rfl rfl (by rw [ws_sz]; exact info_x) ((ws_sz _).trans (ws_sz _).symm) (ws_one _) (fun w794 hm795 => ?_))
              refine ⟨⟨hm795.at 0 rfl, hm795.at 1 rfl, hm795.at 2 rfl⟩, ?_⟩
              refine one_ready 10 (by kernel_rfl) ?_
              refine opd rfl rfl (m_store 5 36 _ _ (ws b) (old := ws 0) hm795 rfl rfl rfl rfl rfl (by rw [ws_sz]; exact info_x) ((ws_sz _).trans (ws_sz _).symm) (ws_one _) (fun w796 hm797 => ?_))
              refine ⟨⟨hm797.at 0 rfl, hm797.at 1 rfl, hm797.at 2 rfl⟩, ?_⟩
              refine one_ready 11 (by kernel_rfl) ?_
              refine opd rfl rfl (m_store 4 36 _ _ (ws c) (old := ws 0) hm797 rfl rfl rfl rfl rfl (by rw [ws_sz]; exact info_x) ((ws_sz _).trans (ws_sz _).symm) (ws_one _) (fun w798 hm799 => ?_))
              refine ⟨⟨hm799.at 0 rfl, hm799.at 1 rfl, hm799.at 2 rfl⟩, ?_⟩
              refine wpAnyH_done (by kernel_rfl) ?_ _
              exact ⟨rfl, g791, g784, g663, rfl, (Mm.reorder hm799 [0, 1, 2, 3, 6, 5, 4] (by decide) rfl)⟩
            · refine opd rfl rfl (m_alloc (c := ws 0) (T := 36) hm788 7 rfl (al_X rfl) (fun g800 w801 hm802 => ?_))
              refine ⟨⟨hm802.at 0 rfl, hm802.at 1 rfl, hm802.at 2 rfl⟩, ?_⟩
              simp only [e1, e2, e3]
              refine one_ready 5 (by kernel_rfl) ?_
              refine opd rfl rfl (m_call hm802 29 (.agg (ws c)) rfl (run_rwords rfl rfl) (rwords_any c _) (fun w803 hm804 => ?_))
              refine ⟨⟨hm804.at 0 rfl, hm804.at 1 rfl, hm804.at 2 rfl⟩, ?_⟩
              simp only [e1, e2, e3]
              refine one_ready 9 (by kernel_rfl) ?_
              refine opd rfl rfl (m_store 6 36 _ _ (ws a) (old := ws 0) hm804 rfl rfl rfl rfl rfl (by rw [ws_sz]; exact info_x) ((ws_sz _).trans (ws_sz _).symm) (ws_one _) (fun w805 hm806 => ?_))
              refine ⟨⟨hm806.at 0 rfl, hm806.at 1 rfl, hm806.at 2 rfl⟩, ?_⟩
              refine one_ready 10 (by kernel_rfl) ?_
              refine opd rfl rfl (m_store 5 36 _ _ (ws b) (old := ws 0) hm806 rfl rfl rfl rfl rfl (by rw [ws_sz]; exact info_x) ((ws_sz _).trans (ws_sz _).symm) (ws_one _) (fun w807 hm808 => ?_))
              refine ⟨⟨hm808.at 0 rfl, hm808.at 1 rfl, hm808.at 2 rfl⟩, ?_⟩
              refine one_ready 11 (by kernel_rfl) ?_
              refine opd rfl rfl (m_store 4 36 _ _ (ws c) (old := ws 0) hm808 rfl rfl rfl rfl rfl (by rw [ws_sz]; exact info_x) ((ws_sz _).trans (ws_sz _).symm) (ws_one _) (fun w809 hm810 => ?_))
              refine ⟨⟨hm810.at 0 rfl, hm810.at 1 rfl, hm810.at 2 rfl⟩, ?_⟩
              refine wpAnyH_done (by kernel_rfl) ?_ _
              exact ⟨rfl, g800, g784, g663, rfl, (Mm.reorder hm810 [0, 1, 2, 3, 6, 5, 4] (by decide) rfl)⟩
          · refine opd rfl rfl (m_alloc (c := ws 0) (T := 36) hm786 7 rfl (al_X rfl) (fun g811 w812 hm813 => ?_))
            refine ⟨⟨hm813.at 0 rfl, hm813.at 1 rfl, hm813.at 2 rfl⟩, ?_⟩
            simp only [e1, e2, e3]
            refine one_ready 3 (by kernel_rfl) ?_
            refine opd rfl rfl (m_call hm813 27 (.agg (ws b)) rfl (run_rwords rfl rfl) (rwords_any b _) (fun w814 hm815 => ?_))
            refine ⟨⟨hm815.at 0 rfl, hm815.at 1 rfl, hm815.at 2 rfl⟩, ?_⟩
            simp only [e1, e2, e3]
            refine one_ready 5 (by kernel_rfl) ?_
            refine opd rfl rfl (m_call hm815 29 (.agg (ws c)) rfl (run_rwords rfl rfl) (rwords_any c _) (fun w816 hm817 => ?_))
            refine ⟨⟨hm817.at 0 rfl, hm817.at 1 rfl, hm817.at 2 rfl⟩, ?_⟩
            simp only [e1, e2, e3]
            refine one_ready 9 (by kernel_rfl) ?_
            refine opd rfl rfl (m_store 6 36 _ _ (ws a) (old := ws 0) hm817 rfl rfl rfl rfl rfl (by rw [ws_sz]; exact info_x) ((ws_sz _).trans (ws_sz _).symm) (ws_one _) (fun w818 hm819 => ?_))
            refine ⟨⟨hm819.at 0 rfl, hm819.at 1 rfl, hm819.at 2 rfl⟩, ?_⟩
            refine one_ready 10 (by kernel_rfl) ?_
            refine opd rfl rfl (m_store 5 36 _ _ (ws b) (old := ws 0) hm819 rfl rfl rfl rfl rfl (by rw [ws_sz]; exact info_x) ((ws_sz _).trans (ws_sz _).symm) (ws_one _) (fun w820 hm821 => ?_))
            refine ⟨⟨hm821.at 0 rfl, hm821.at 1 rfl, hm821.at 2 rfl⟩, ?_⟩
            refine one_ready 11 (by kernel_rfl) ?_
            refine opd rfl rfl (m_store 4 36 _ _ (ws c) (old := ws 0) hm821 rfl rfl rfl rfl rfl (by rw [ws_sz]; exact info_x) ((ws_sz _).trans (ws_sz _).symm) (ws_one _) (fun w822 hm823 => ?_))
            refine ⟨⟨hm823.at 0 rfl, hm823.at 1 rfl, hm823.at 2 rfl⟩, ?_⟩
            refine wpAnyH_done (by kernel_rfl) ?_ _
            exact ⟨rfl, g811, g784, g663, rfl, (Mm.reorder hm823 [0, 1, 2, 3, 6, 5, 4] (by decide) rfl)⟩
    · refine opd rfl rfl (m_alloc (c := ws 0) (T := 36) hm15 7 rfl (al_X rfl) (fun g824 w825 hm826 => ?_))
      refine ⟨⟨hm826.at 0 rfl, hm826.at 1 rfl, hm826.at 2 rfl⟩, ?_⟩
      simp only [e1, e2, e3]
      refine three_ready 1 7 8 (by kernel_rfl) ?_ ?_ ?_
      · refine opd rfl rfl (m_call hm826 25 (.agg (ws a)) rfl (run_rwords rfl rfl) (rwords_any a _) (fun w827 hm828 => ?_))
        refine ⟨⟨hm828.at 0 rfl, hm828.at 1 rfl, hm828.at 2 rfl⟩, ?_⟩
        simp only [e1, e2, e3]
        refine three_ready 3 7 8 (by kernel_rfl) ?_ ?_ ?_
        · refine opd rfl rfl (m_call hm828 27 (.agg (ws b)) rfl (run_rwords rfl rfl) (rwords_any b _) (fun w829 hm830 => ?_))
          refine ⟨⟨hm830.at 0 rfl, hm830.at 1 rfl, hm830.at 2 rfl⟩, ?_⟩
          simp only [e1, e2, e3]
          refine three_ready 5 7 8 (by kernel_rfl) ?_ ?_ ?_
          · refine opd rfl rfl (m_call hm830 29 (.agg (ws c)) rfl (run_rwords rfl rfl) (rwords_any c _) (fun w831 hm832 => ?_))
            refine ⟨⟨hm832.at 0 rfl, hm832.at 1 rfl, hm832.at 2 rfl⟩, ?_⟩
            simp only [e1, e2, e3]
            refine two_ready 7 8 (by kernel_rfl) ?_ ?_
            · refine opd rfl rfl (m_alloc (c := ws 0) (T := 36) hm832 8 rfl (al_X rfl) (fun g833 w834 hm835 => ?_))
              refine ⟨⟨hm835.at 0 rfl, hm835.at 1 rfl, hm835.at 2 rfl⟩, ?_⟩
              simp only [e1, e2, e3]
              refine one_ready 8 (by kernel_rfl) ?_
              refine opd rfl rfl (m_alloc (c := ws 0) (T := 36) hm835 9 rfl (al_X rfl) (fun g836 w837 hm838 => ?_))
              refine ⟨⟨hm838.at 0 rfl, hm838.at 1 rfl, hm838.at 2 rfl⟩, ?_⟩
              simp only [e1, e2, e3]
              refine one_ready 9 (by kernel_rfl) ?_
              refine opd rfl rfl (m_store 4 36 _ _ (ws a) (old := ws 0) hm838 rfl rfl rfl rfl rfl (by rw [ws_sz]; exact info_x) ((ws_sz _).trans (ws_sz _).symm) (ws_one _) (fun w839 hm840 => ?_))
              refine ⟨⟨hm840.at 0 rfl, hm840.at 1 rfl, hm840.at 2 rfl⟩, ?_⟩
              refine one_ready 10 (by kernel_rfl) ?_
              refine opd rfl rfl (m_store 5 36 _ _ (ws b) (old := ws 0) hm840 rfl rfl rfl rfl rfl (by rw [ws_sz]; exact info_x) ((ws_sz _).trans (ws_sz _).symm) (ws_one _) (fun w841 hm842 => ?_))
              refine ⟨⟨hm842.at 0 rfl, hm842.at 1 rfl, hm842.at 2 rfl⟩, ?_⟩
              refine one_ready 11 (by kernel_rfl) ?_
              refine opd rfl rfl (m_store 6 36 _ _ (ws c) (old := ws 0) hm842 rfl rfl rfl rfl rfl (by rw [ws_sz]; exact info_x) ((ws_sz _).trans (ws_sz _).symm) (ws_one _) (fun w843 hm844 => ?_))
              refine ⟨⟨hm844.at 0 rfl, hm844.at 1 rfl, hm844.at 2 rfl⟩, ?_⟩
              refine wpAnyH_done (by kernel_rfl) ?_ _
              exact ⟨rfl, g824, g833, g836, rfl, hm844⟩
            · refine opd rfl rfl (m_alloc (c := ws 0) (T := 36) hm832 9 rfl (al_X rfl) (fun g845 w846 hm847 => ?_))
              refine ⟨⟨hm847.at 0 rfl, hm847.at 1 rfl, hm847.at 2 rfl⟩, ?_⟩
              simp only [e1, e2, e3]
              refine one_ready 7 (by kernel_rfl) ?_
              refine opd rfl rfl (m_alloc (c := ws 0) (T := 36) hm847 8 rfl (al_X rfl) (fun g848 w849 hm850 => ?_))
              refine ⟨⟨hm850.at 0 rfl, hm850.at 1 rfl, hm850.at 2 rfl⟩, ?_⟩
              simp only [e1, e2, e3]
              refine one_ready 9 (by kernel_rfl) ?_
              refine opd rfl rfl (m_store 4 36 _ _ (ws a) (old := ws 0) hm850 rfl rfl rfl rfl rfl (by rw [ws_sz]; exact info_x) ((ws_sz _).trans (ws_sz _).symm) (ws_one _) (fun w851 hm852 => ?_))
              refine ⟨⟨hm852.at 0 rfl, hm852.at 1 rfl, hm852.at 2 rfl⟩, ?_⟩
              refine one_ready 10 (by kernel_rfl) ?_
              refine opd rfl rfl (m_store 6 36 _ _ (ws b) (old := ws 0) hm852 rfl rfl rfl rfl rfl (by rw [ws_sz]; exact info_x) ((ws_sz _).trans (ws_sz _).symm) (ws_one _) (fun w853 hm854 => ?_))
              refine ⟨⟨hm854.at 0 rfl, hm854.at 1 rfl, hm854.at 2 rfl⟩, ?_⟩
              refine one_ready 11 (by kernel_rfl) ?_
              refine opd rfl rfl (m_store 5 36 _ _ (ws c) (old := ws 0) hm854 rfl rfl rfl rfl rfl (by rw [ws_sz]; exact info_x) ((ws_sz _).trans (ws_sz _).symm) (ws_one _) (fun w855 hm856 => ?_))
              refine ⟨⟨hm856.at 0 rfl, hm856.at 1 rfl, hm856.at 2 rfl⟩, ?_⟩
              refine wpAnyH_done (by kernel_rfl) ?_ _
              exact ⟨rfl, g824, g848, g845, rfl, (Mm.reorder hm856 [0, 1, 2, 3, 4, 6, 5] (by decide) rfl)⟩
          · refine opd rfl rfl (m_alloc (c := ws 0) (T := 36) hm830 8 rfl (al_X rfl) (fun g857 w858 hm859 => ?_))
            refine ⟨⟨hm859.at 0 rfl, hm859.at 1 rfl, hm859.at 2 rfl⟩, ?_⟩
            simp only [e1, e2, e3]
            refine two_ready 5 8 (by kernel_rfl) ?_ ?_
            · refine opd rfl rfl (m_call hm859 29 (.agg (ws c)) rfl (run_rwords rfl rfl) (rwords_any c _) (fun w860 hm861 => ?_))
              refine ⟨⟨hm861.at 0 rfl, hm861.at 1 rfl, hm861.at 2 rfl⟩, ?_⟩
              simp only [e1, e2, e3]
              refine one_ready 8 (by kernel_rfl) ?_
              refine opd rfl rfl (m_alloc (c := ws 0) (T := 36) hm861 9 rfl (al_X rfl) (fun g862 w863 hm864 => ?_))
              refine ⟨⟨hm864.at 0 rfl, hm864.at 1 rfl, hm864.at 2 rfl⟩, ?_⟩
              simp only [e1, e2, e3]
              refine one_ready 9 (by kernel_rfl) ?_
              refine opd rfl rfl (m_store 4 36 _ _ (ws a) (old := ws 0) hm864 rfl rfl rfl rfl rfl (by rw [ws_sz]; exact info_x) ((ws_sz _).trans (ws_sz _).symm) (ws_one _) (fun w865 hm866 => ?_))
              refine ⟨⟨hm866.at 0 rfl, hm866.at 1 rfl, hm866.at 2 rfl⟩, ?_⟩
              refine one_ready 10 (by kernel_rfl) ?_
              refine opd rfl rfl (m_store 5 36 _ _ (ws b) (old := ws 0) hm866 rfl rfl rfl rfl rfl (by rw [ws_sz]; exact info_x) ((ws_sz _).trans (ws_sz _).symm) (ws_one _) (fun w867 hm868 => ?_))
              refine ⟨⟨hm868.at 0 rfl, hm868.at 1 rfl, hm868.at 2 rfl⟩, ?_⟩
              refine one_ready 11 (by kernel_rfl) ?_
              refine opd rfl rfl (m_store 6 36 _ _ (ws c) (old := ws 0) hm868 rfl rfl rfl rfl rfl (by rw [ws_sz]; exact info_x) ((ws_sz _).trans (ws_sz _).symm) (ws_one _) (fun w869 hm870 => ?_))
              refine ⟨⟨hm870.at 0 rfl, hm870.at 1 rfl, hm870.at 2 rfl⟩, ?_⟩
              refine wpAnyH_done (by kernel_rfl) ?_ _
              exact ⟨rfl, g824, g857, g862, rfl, hm870⟩
            · refine opd rfl rfl (m_alloc (c := ws 0) (T := 36) hm859 9 rfl (al_X rfl) (fun g871 w872 hm873 => ?_))
              refine ⟨⟨hm873.at 0 rfl, hm873.at 1 rfl, hm873.at 2 rfl⟩, ?_⟩
              simp only [e1, e2, e3]
              refine one_ready 5 (by kernel_rfl) ?_
              refine opd rfl rfl (m_call hm873 29 (.agg (ws c)) rfl (run_rwords rfl rfl) (rwords_any c _) (fun w874 hm875 => ?_))
              refine ⟨⟨hm875.at 0 rfl, hm875.at 1 rfl, hm875.at 2 rfl⟩, ?_⟩
              simp only [e1, e2, e3]
              refine one_ready 9 (by kernel_rfl) ?_
              refine opd rfl rfl (m_store 4 36 _ _ (ws a) (old := ws 0) hm875 rfl rfl rfl rfl rfl (by rw [ws_sz]; exact info_x) ((ws_sz _).trans (ws_sz _).symm) (ws_one _) (fun w876 hm877 => ?_))
              refine ⟨⟨hm877.at 0 rfl, hm877.at 1 rfl, hm877.at 2 rfl⟩, ?_⟩
              refine one_ready 10 (by kernel_rfl) ?_
              refine opd rfl rfl (m_store 5 36 _ _ (ws b) (old := ws 0) hm877 rfl rfl rfl rfl rfl (by rw [ws_sz]; exact info_x) ((ws_sz _).trans (ws_sz _).symm) (ws_one _) (fun w878 hm879 => ?_))
              refine ⟨⟨hm879.at 0 rfl, hm879.at 1 rfl, hm879.at 2 rfl⟩, ?_⟩
              refine one_ready 11 (by kernel_rfl) ?_
              refine opd rfl rfl (m_store 6 36 _ _ (ws c) (old := ws 0) hm879 rfl rfl rfl rfl rfl (by rw [ws_sz]; exact info_x) ((ws_sz _).trans (ws_sz _).symm) (ws_one _) (fun w880 hm881 => ?_))
              refine ⟨⟨hm881.at 0 rfl, hm881.at 1 rfl, hm881.at 2 rfl⟩, ?_⟩
              refine wpAnyH_done (by kernel_rfl) ?_ _
              exact ⟨rfl, g824, g857, g871, rfl, hm881⟩
          · refine opd rfl rfl (m_alloc (c := ws 0) (T := 36) hm830 9 rfl (al_X rfl) (fun g882 w883 hm884 => ?_))
            refine ⟨⟨hm884.at 0 rfl, hm884.at 1 rfl, hm884.at 2 rfl⟩, ?_⟩
            simp only [e1, e2, e3]
            refine two_ready 5 7 (by kernel_rfl) ?_ ?_
            · refine opd rfl rfl (m_call hm884 29 (.agg (ws c)) rfl (run_rwords rfl rfl) (rwords_any c _) (fun w885 hm886 => ?_))
              refine ⟨⟨hm886.at 0 rfl, hm886.at 1 rfl, hm886.at 2 rfl⟩, ?_⟩
              simp only [e1, e2, e3]
              refine one_ready 7 (by kernel_rfl) ?_
              refine opd rfl rfl (m_alloc (c := ws 0) (T := 36) hm886 8 rfl (al_X rfl) (fun g887 w888 hm889 => ?_))
              refine ⟨⟨hm889.at 0 rfl, hm889.at 1 rfl, hm889.at 2 rfl⟩, ?_⟩
              simp only [e1, e2, e3]
              refine one_ready 9 (by kernel_rfl) ?_
              refine opd rfl rfl (m_store 4 36 _ _ (ws a) (old := ws 0) hm889 rfl rfl rfl rfl rfl (by rw [ws_sz]; exact info_x) ((ws_sz _).trans (ws_sz _).symm) (ws_one _) (fun w890 hm891 => ?_))
              refine ⟨⟨hm891.at 0 rfl, hm891.at 1 rfl, hm891.at 2 rfl⟩, ?_⟩
              refine one_ready 10 (by kernel_rfl) ?_
              refine opd rfl rfl (m_store 6 36 _ _ (ws b) (old := ws 0) hm891 rfl rfl rfl rfl rfl (by rw [ws_sz]; exact info_x) ((ws_sz _).trans (ws_sz _).symm) (ws_one _) (fun w892 hm893 => ?_))
              refine ⟨⟨hm893.at 0 rfl, hm893.at 1 rfl, hm893.at 2 rfl⟩, ?_⟩
              refine one_ready 11 (by kernel_rfl) ?_
              refine opd rfl rfl (m_store 5 36 _ _ (ws c) (old := ws 0) hm893 rfl rfl rfl rfl rfl (by rw [ws_sz]; exact info_x) ((ws_sz _).trans (ws_sz _).symm) (ws_one _) (fun w894 hm895 => ?_))
              refine ⟨⟨hm895.at 0 rfl, hm895.at 1 rfl, hm895.at 2 rfl⟩, ?_⟩
              refine wpAnyH_done (by kernel_rfl) ?_ _
              exact ⟨rfl, g824, g887, g882, rfl, (Mm.reorder hm895 [0, 1, 2, 3, 4, 6, 5] (by decide) rfl)⟩
            · refine opd rfl rfl (m_alloc (c := ws 0) (T := 36) hm884 8 rfl (al_X rfl) (fun g896 w897 hm898 => ?_))
              refine ⟨⟨hm898.at 0 rfl, hm898.at 1 rfl, hm898.at 2 rfl⟩, ?_⟩
              simp only [e1, e2, e3]
              refine one_ready 5 (by kernel_rfl) ?_
              refine opd rfl rfl (m_call hm898 29 (.agg (ws c)) rfl (run_rwords rfl rfl) (rwords_any c _) (fun w899 hm900 => ?_))
              refine ⟨⟨hm900.at 0 rfl, hm900.at 1 rfl, hm900.at 2 rfl⟩, ?_⟩
              simp only [e1, e2, e3]
              refine one_ready 9 (by kernel_rfl) ?_
              refine opd rfl rfl (m_store 4 36 _ _ (ws a) (old := ws 0) hm900 rfl rfl rfl rfl rfl (by rw [ws_sz]; exact info_x) ((ws_sz _).trans (ws_sz _).symm) (ws_one _) (fun w901 hm902 => ?_))
              refine ⟨⟨hm902.at 0 rfl, hm902.at 1 rfl, hm902.at 2 rfl⟩, ?_⟩
              refine one_ready 10 (by kernel_rfl) ?_
              refine opd rfl rfl (m_store 6 36 _ _ (ws b) (old := ws 0) hm902 rfl rfl rfl rfl rfl (by rw [ws_sz]; exact info_x) ((ws_sz _).trans (ws_sz _).symm) (ws_one _) (fun w903 hm904 => ?_))
              refine ⟨⟨hm904.at 0 rfl, hm904.at 1 rfl, hm904.at 2 rfl⟩, ?_⟩
              refine one_ready 11 (by kernel_rfl) ?_
              refine opd rfl rfl (m_store 5 36 _ _ (ws c) (old := ws 0) hm904 rfl rfl rfl rfl rfl (by rw [ws_sz]; exact info_x) ((ws_sz _).trans (ws_sz _).symm) (ws_one _) (fun w905 hm906 => ?_))
              refine ⟨⟨hm906.at 0 rfl, hm906.at 1 rfl, hm906.at 2 rfl⟩, ?_⟩
              refine wpAnyH_done (by kernel_rfl) ?_ _
              exact ⟨rfl, g824, g896, g882, rfl, (Mm.reorder hm906 [0, 1, 2, 3, 4, 6, 5] (by decide) rfl)⟩
        · refine opd rfl rfl (m_alloc (c := ws 0) (T := 36) hm828 8 rfl (al_X rfl) (fun g907 w908 hm909 => ?_))
          refine ⟨⟨hm909.at 0 rfl, hm909.at 1 rfl, hm909.at 2 rfl⟩, ?_⟩
          simp only [e1, e2, e3]
          refine two_ready 3 8 (by kernel_rfl) ?_ ?_
          · refine opd rfl rfl (m_call hm909 27 (.agg (ws b)) rfl (run_rwords rfl rfl) (rwords_any b _) (fun w910 hm911 => ?_))
            refine ⟨⟨hm911.at 0 rfl, hm911.at 1 rfl, hm911.at 2 rfl⟩, ?_⟩
            simp only [e1, e2, e3]
            refine two_ready 5 8 (by kernel_rfl) ?_ ?_
            · refine opd rfl rfl (m_call hm911 29 (.agg (ws c)) rfl (run_rwords rfl rfl) (rwords_any c _) (fun w912 hm913 => ?_))
              refine ⟨⟨hm913.at 0 rfl, hm913.at 1 rfl, hm913.at 2 rfl⟩, ?_⟩
              simp only [e1, e2, e3]
              refine one_ready 8 (by kernel_rfl) ?_
              refine opd rfl rfl (m_alloc (c := ws 0) (T := 36) hm913 9 rfl (al_X rfl) (fun g914 w915 hm916 => ?_))
              refine ⟨⟨hm916.at 0 rfl, hm916.at 1 rfl, hm916.at 2 rfl⟩, ?_⟩
              simp only [e1, e2, e3]
              refine one_ready 9 (by kernel_rfl) ?_
              refine opd rfl rfl (m_store 4 36 _ _ (ws a) (old := ws 0) hm916 rfl rfl rfl rfl rfl (by rw [ws_sz]; exact info_x) ((ws_sz _).trans (ws_sz _).symm) (ws_one _) (fun w917 hm918 => ?_))
              refine ⟨⟨hm918.at 0 rfl, hm918.at 1 rfl, hm918.at 2 rfl⟩, ?_⟩
              refine one_ready 10 (by kernel_rfl) ?_
              refine opd rfl rfl (m_store 5 36 _ _ (ws b) (old := ws 0) hm918 rfl rfl rfl rfl rfl (by rw [ws_sz]; exact info_x) ((ws_sz _).trans (ws_sz _).symm) (ws_one _) (fun w919 hm920 => ?_))
              refine ⟨⟨hm920.at 0 rfl, hm920.at 1 rfl, hm920.at 2 rfl⟩, ?_⟩
              refine one_ready 11 (by kernel_rfl) ?_
              refine opd rfl rfl (m_store 6 36 _ _ (ws c) (old := ws 0) hm920 rfl rfl rfl rfl rfl (by rw [ws_sz]; exact info_x) ((ws_sz _).trans (ws_sz _).symm) (ws_one _) (fun w921 hm922 => ?_))
              refine ⟨⟨hm922.at 0 rfl, hm922.at 1 rfl, hm922.at 2 rfl⟩, ?_⟩
              refine wpAnyH_done (by kernel_rfl) ?_ _
              exact ⟨rfl, g824, g907, g914, rfl, hm922⟩
            · refine opd rfl rfl (m_alloc (c := ws 0) (T := 36) hm911 9 rfl (al_X rfl) (fun g923 w924 hm925 => ?_))
              refine ⟨⟨hm925.at 0 rfl, hm925.at 1 rfl, hm925.at 2 rfl⟩, ?_⟩
              simp only [e1, e2, e3]
              refine one_ready 5 (by kernel_rfl) ?_
              refine opd rfl rfl (m_call hm925 29 (.agg (ws c)) rfl (run_rwords rfl rfl) (rwords_any c _) (fun w926 hm927 => ?_))
              refine ⟨⟨hm927.at 0 rfl, hm927.at 1 rfl, hm927.at 2 rfl⟩, ?_⟩
              simp only [e1, e2, e3]
              refine one_ready 9 (by kernel_rfl) ?_
              refine opd rfl rfl (m_store 4 36 _ _ (ws a) (old := ws 0) hm927 rfl rfl rfl rfl rfl (by rw [ws_sz]; exact info_x) ((ws_sz _).trans (ws_sz _).symm) (ws_one _) (fun w928 hm929 => ?_))
              refine ⟨⟨hm929.at 0 rfl, hm929.at 1 rfl, hm929.at 2 rfl⟩, ?_⟩
              refine one_ready 10 (by kernel_rfl) ?_
              refine opd rfl rfl (m_store 5 36 _ _ (ws b) (old := ws 0) hm929 rfl rfl rfl rfl rfl (by rw [ws_sz]; exact info_x) ((ws_sz _).trans (ws_sz _).symm) (ws_one _) (fun w930 hm931 => ?_))
              refine ⟨⟨hm931.at 0 rfl, hm931.at 1 rfl, hm931.at 2 rfl⟩, ?_⟩
              refine one_ready 11 (by kernel_rfl) ?_
              refine opd rfl rfl (m_store 6 36 _ _ (ws c) (old := ws 0) hm931 rfl rfl rfl rfl rfl (by rw [ws_sz]; exact info_x) ((ws_sz _).trans (ws_sz _).symm) (ws_one _) (fun w932 hm933 => ?_))
              refine ⟨⟨hm933.at 0 rfl, hm933.at 1 rfl, hm933.at 2 rfl⟩, ?_⟩
              refine wpAnyH_done (by kernel_rfl) ?_ _
              exact ⟨rfl, g824, g907, g923, rfl, hm933⟩
          · refine opd rfl rfl (m_alloc (c := ws 0) (T := 36) hm909 9 rfl (al_X rfl) (fun g934 w935 hm936 => ?_))
            refine ⟨⟨hm936.at 0 rfl, hm936.at 1 rfl, hm936.at 2 rfl⟩, ?_⟩
            simp only [e1, e2, e3]
            refine one_ready 3 (by kernel_rfl) ?_
            refine opd rfl rfl (m_call hm936 27 (.agg (ws b)) rfl (run_rwords rfl rfl) (rwords_any b _) (fun w937 hm938 => ?_))
            refine ⟨⟨hm938.at 0 rfl, hm938.at 1 rfl, hm938.at 2 rfl⟩, ?_⟩
            simp only [e1, e2, e3]
            refine one_ready 5 (by kernel_rfl) ?_
            refine opd rfl rfl (m_call hm938 29 (.agg (ws c)) rfl (run_rwords rfl rfl) (rwords_any c _) (fun w939 hm940 => ?_))
            refine ⟨⟨hm940.at 0 rfl, hm940.at 1 rfl, hm940.at 2 rfl⟩, ?_⟩
            simp only [e1, e2, e3]
            refine one_ready 9 (by kernel_rfl) ?_
            refine opd rfl rfl (m_store 4 36 _ _ (ws a) (old := ws 0) hm940 rfl rfl rfl rfl rfl (by rw [ws_sz]; exact info_x) ((ws_sz _).trans (ws_sz _).symm) (ws_one _) (fun w941 hm942 => ?_))
            refine ⟨⟨hm942.at 0 rfl, hm942.at 1 rfl, hm942.at 2 rfl⟩, ?_⟩
            refine one_ready 10 (by kernel_rfl) ?_
            refine opd rfl rfl (m_store 5 36 _ _ (ws b) (old := ws 0) hm942 rfl rfl rfl rfl rfl (by rw [ws_sz]; exact info_x) ((ws_sz _).trans (ws_sz _).symm) (ws_one _) (fun w943 hm944 => ?_))
            refine ⟨⟨hm944.at 0 rfl, hm944.at 1 rfl, hm944.at 2 rfl⟩, ?_⟩
            refine one_ready 11 (by kernel_rfl) ?_
            refine opd rfl rfl (m_store 6 36 _ _ (ws c) (old := ws 0) hm944 rfl rfl rfl rfl rfl (by rw [ws_sz]; exact info_x) ((ws_sz _).trans (ws_sz _).symm) (ws_one _) (fun w945 hm946 => ?_))
            refine ⟨⟨hm946.at 0 rfl, hm946.at 1 rfl, hm946.at 2 rfl⟩, ?_⟩
            refine wpAnyH_done (by kernel_rfl) ?_ _
            exact ⟨rfl, g824, g907, g934, rfl, hm946⟩
        · refine opd rfl rfl (m_alloc (c := ws 0) (T := 36) hm828 9 rfl (al_X rfl) (fun g947 w948 hm949 => ?_))
          refine ⟨⟨hm949.at 0 rfl, hm949.at 1 rfl, hm949.at 2 rfl⟩, ?_⟩
          simp only [e1, e2, e3]
          refine two_ready 3 7 (by kernel_rfl) ?_ ?_
          · refine opd rfl rfl (m_call hm949 27 (.agg (ws b)) rfl (run_rwords rfl rfl) (rwords_any b _) (fun w950 hm951 => ?_))
            refine ⟨⟨hm951.at 0 rfl, hm951.at 1 rfl, hm951.at 2 rfl⟩, ?_⟩
            simp only [e1, e2, e3]
            refine two_ready 5 7 (by kernel_rfl) ?_ ?_
            · refine opd rfl rfl (m_call hm951 29 (.agg (ws c)) rfl (run_rwords rfl rfl) (rwords_any c _) (fun w952 hm953 => ?_))
              refine ⟨⟨hm953.at 0 rfl, hm953.at 1 rfl, hm953.at 2 rfl⟩, ?_⟩
              simp only [e1, e2, e3]
              refine one_ready 7 (by kernel_rfl) ?_
              refine opd rfl rfl (m_alloc (c := ws 0) (T := 36) hm953 8 rfl (al_X rfl) (fun g954 w955 hm956 => ?_))
              refine ⟨⟨hm956.at 0 rfl, hm956.at 1 rfl, hm956.at 2 rfl⟩, ?_⟩
              simp only [e1, e2, e3]
              refine one_ready 9 (by kernel_rfl) ?_
              refine opd rfl rfl (m_store 4 36 _ _ (ws a) (old := ws 0) hm956 rfl rfl rfl rfl rfl (by rw [ws_sz]; exact info_x) ((ws_sz _).trans (ws_sz _).symm) (ws_one _) (fun w957 hm958 => ?_))
              refine ⟨⟨hm958.at 0 rfl, hm958.at 1 rfl, hm958.at 2 rfl⟩, ?_⟩
              refine one_ready 10 (by kernel_rfl) ?_
              refine opd rfl rfl (m_store 6 36 _ _ (ws b) (old := ws 0) hm958 rfl rfl rfl rfl rfl (by rw [ws_sz]; exact info_x) ((ws_sz _).trans (ws_sz _).symm) (ws_one _) (fun w959 hm960 => ?_))
              refine ⟨⟨hm960.at 0 rfl, hm960.at 1 rfl, hm960.at 2 rfl⟩, ?_⟩
              refine one_ready 11 (by kernel_rfl) ?_
              refine opd rfl rfl (m_store 5 36 _ _ (ws c) (old := ws 0) hm960 rfl rfl rfl rfl rfl (by rw [ws_sz]; exact info_x) ((ws_sz _).trans (ws_sz _).symm) (ws_one _) (fun w961 hm962 => ?_))
              refine ⟨⟨hm962.at 0 rfl, hm962.at 1 rfl, hm962.at 2 rfl⟩, ?_⟩
              refine wpAnyH_done (by kernel_rfl) ?_ _
              exact ⟨rfl, g824, g954, g947, rfl, (Mm.reorder hm962 [0, 1, 2, 3, 4, 6, 5] (by decide) rfl)⟩
            · refine opd rfl rfl (m_alloc (c := ws 0) (T := 36) hm951 8 rfl (al_X rfl) (fun g963 w964 hm965 => ?_))
              refine ⟨⟨hm965.at 0 rfl, hm965.at 1 rfl, hm965.at 2 rfl⟩, ?_⟩
              simp only [e1, e2, e3]
              refine one_ready 5 (by kernel_rfl) ?_
              refine opd rfl rfl (m_call hm965 29 (.agg (ws c)) rfl (run_rwords rfl rfl) (rwords_any c _) (fun w966 hm967 => ?_))
              refine ⟨⟨hm967.at 0 rfl, hm967.at 1 rfl, hm967.at 2 rfl⟩, ?_⟩
              simp only [e1, e2, e3]
              refine one_ready 9 (by kernel_rfl) ?_
              refine opd rfl rfl (m_store 4 36 _ _ (ws a) (old := ws 0) hm967 rfl rfl rfl rfl rfl (by rw [ws_sz]; exact info_x) ((ws_sz _).trans (ws_sz _).symm) (ws_one _) (fun w968 hm969 => ?_))
              refine ⟨⟨hm969.at 0 rfl, hm969.at 1 rfl, hm969.at 2 rfl⟩, ?_⟩
              refine one_ready 10 (by kernel_rfl) ?_
              refine opd rfl rfl (m_store 6 36 _ _ (ws b) (old := ws 0) hm969 rfl rfl rfl rfl rfl (by rw [ws_sz]; exact info_x) ((ws_sz _).trans (ws_sz _).symm) (ws_one _) (fun w970 hm971 => ?_))
              refine ⟨⟨hm971.at 0 rfl, hm971.at 1 rfl, hm971.at 2 rfl⟩, ?_⟩
              refine one_ready 11 (by kernel_rfl) ?_
              refine opd rfl rfl (m_store 5 36 _ _ (ws c) (old := ws 0) hm971 rfl rfl rfl rfl rfl (by rw [ws_sz]; exact info_x) ((ws_sz _).trans (ws_sz _).symm) (ws_one _) (fun w972 hm973 => ?_))
              refine ⟨⟨hm973.at 0 rfl, hm973.at 1 rfl, hm973.at 2 rfl⟩, ?_⟩
              refine wpAnyH_done (by kernel_rfl) ?_ _
              exact ⟨rfl, g824, g963, g947, rfl, (Mm.reorder hm973 [0, 1, 2, 3, 4, 6, 5] (by decide) rfl)⟩
          · refine opd rfl rfl (m_alloc (c := ws 0) (T := 36) hm949 8 rfl (al_X rfl) (fun g974 w975 hm976 => ?_))
            refine ⟨⟨hm976.at 0 rfl, hm976.at 1 rfl, hm976.at 2 rfl⟩, ?_⟩
            simp only [e1, e2, e3]
            refine one_ready 3 (by kernel_rfl) ?_
            refine opd rfl rfl (m_call hm976 27 (.agg (ws b)) rfl (run_rwords rfl rfl) (rwords_any b _) (fun w977 hm978 => ?_))
            refine ⟨⟨hm978.at 0 rfl, hm978.at 1 rfl, hm978.at 2 rfl⟩, ?_⟩
            simp only [e1, e2, e3]
            refine one_ready 5 (by kernel_rfl) ?_
            refine opd rfl rfl (m_call hm978 29 (.agg (ws c)) rfl (run_rwords rfl rfl) (rwords_any c _) (fun w979 hm980 => ?_))
            refine ⟨⟨hm980.at 0 rfl, hm980.at 1 rfl, hm980.at 2 rfl⟩, ?_⟩
            simp only [e1, e2, e3]
            refine one_ready 9 (by kernel_rfl) ?_
            refine opd rfl rfl (m_store 4 36 _ _ (ws a) (old := ws 0) hm980 rfl rfl rfl rfl rfl (by rw [ws_sz]; exact info_x) ((ws_sz _).trans (ws_sz _).symm) (ws_one _) (fun w981 hm982 => ?_))
            refine ⟨⟨hm982.at 0 rfl, hm982.at 1 rfl, hm982.at 2 rfl⟩, ?_⟩
            refine one_ready 10 (by kernel_rfl) ?_
            refine opd rfl rfl (m_store 6 36 _ _ (ws b) (old := ws 0) hm982 rfl rfl rfl rfl rfl (by rw [ws_sz]; exact info_x) ((ws_sz _).trans (ws_sz _).symm) (ws_one _) (fun w983 hm984 => ?_))
            refine ⟨⟨hm984.at 0 rfl, hm984.at 1 rfl, hm984.at 2 rfl⟩, ?_⟩
            refine one_ready 11 (by kernel_rfl) ?_
            refine opd rfl rfl (m_store 5 36 _ _ (ws c) (old := ws 0) hm984 rfl rfl rfl rfl rfl (by rw [ws_sz]; exact info_x) ((ws_sz _).trans (ws_sz _).symm) (ws_one _) (fun w985 hm986 => ?_))
            refine ⟨⟨hm986.at 0 rfl, hm986.at 1 rfl, hm986.at 2 rfl⟩, ?_⟩
            refine wpAnyH_done (by kernel_rfl) ?_ _
            exact ⟨rfl, g824, g974, g947, rfl, (Mm.reorder hm986 [0, 1, 2, 3, 4, 6, 5] (by decide) rfl)⟩
      · refine opd rfl rfl (m_alloc (c := ws 0) (T := 36) hm826 8 rfl (al_X rfl) (fun g987 w988 hm989 => ?_))
        refine ⟨⟨hm989.at 0 rfl, hm989.at 1 rfl, hm989.at 2 rfl⟩, ?_⟩
        simp only [e1, e2, e3]
        refine two_ready 1 8 (by kernel_rfl) ?_ ?_
        · refine opd rfl rfl (m_call hm989 25 (.agg (ws a)) rfl (run_rwords rfl rfl) (rwords_any a _) (fun w990 hm991 => ?_))
          refine ⟨⟨hm991.at 0 rfl, hm991.at 1 rfl, hm991.at 2 rfl⟩, ?_⟩
          simp only [e1, e2, e3]
          refine two_ready 3 8 (by kernel_rfl) ?_ ?_
          · refine opd rfl rfl (m_call hm991 27 (.agg (ws b)) rfl (run_rwords rfl rfl) (rwords_any b _) (fun w992 hm993 => ?_))
            refine ⟨⟨hm993.at 0 rfl, hm993.at 1 rfl, hm993.at 2 rfl⟩, ?_⟩
            simp only [e1, e2, e3]
            refine two_ready 5 8 (by kernel_rfl) ?_ ?_
            · refine opd rfl rfl (m_call hm993 29 (.agg (ws c)) rfl (run_rwords rfl rfl) (rwords_any c _) (fun w994 hm995 => ?_))
              refine ⟨⟨hm995.at 0 rfl, hm995.at 1 rfl, hm995.at 2 rfl⟩, ?_⟩
              simp only [e1, e2, e3]
              refine one_ready 8 (by kernel_rfl) ?_
              refine opd rfl rfl (m_alloc (c := ws 0) (T := 36) hm995 9 rfl (al_X rfl) (fun g996 w997 hm998 => ?_))
              refine ⟨⟨hm998.at 0 rfl, hm998.at 1 rfl, hm998.at 2 rfl⟩, ?_⟩
              simp only [e1, e2, e3]
              refine one_ready 9 (by kernel_rfl) ?_
              refine opd rfl rfl (m_store 4 36 _ _ (ws a) (old := ws 0) hm998 rfl rfl rfl rfl rfl (by rw [ws_sz]; exact info_x) ((ws_sz _).trans (ws_sz _).symm) (ws_one _) (fun w999 hm1000 => ?_))
              refine ⟨⟨hm1000.at 0 rfl, hm1000.at 1 rfl, hm1000.at 2 rfl⟩, ?_⟩
              refine one_ready 10 (by kernel_rfl) ?_
              refine opd rfl rfl (m_store 5 36 _ _ (ws b) (old := ws 0) hm1000 rfl rfl rfl rfl rfl (by rw [ws_sz]; exact info_x) ((ws_sz _).trans (ws_sz _).symm) (ws_one _) (fun w1001 hm1002 => ?_))
              refine ⟨⟨hm1002.at 0 rfl, hm1002.at 1 rfl, hm1002.at 2 rfl⟩, ?_⟩
              refine one_ready 11 (by kernel_rfl) ?_
              refine opd rfl rfl (m_store 6 36 _ _ (ws c) (old := ws 0) hm1002 rfl rfl rfl rfl rfl (by rw [ws_sz]; exact info_x) ((ws_sz _).trans (ws_sz _).symm) (ws_one _) (fun w1003 hm1004 => ?_))
              refine ⟨⟨hm1004.at 0 rfl, hm1004.at 1 rfl, hm1004.at 2 rfl⟩, ?_⟩
              refine wpAnyH_done (by kernel_rfl) ?_ _
              exact ⟨rfl, g824, g987, g996, rfl, hm1004⟩
            · refine opd rfl rfl (m_alloc (c := ws 0) (T := 36) hm993 9 rfl (al_X rfl) (fun g1005 w1006 hm1007 => ?_))
              refine ⟨⟨hm1007.at 0 rfl, hm1007.at 1 rfl, hm1007.at 2 rfl⟩, ?_⟩
              simp only [e1, e2, e3]
              refine one_ready 5 (by kernel_rfl) ?_
              refine opd rfl rfl (m_call hm1007 29 (.agg (ws c)) rfl (run_rwords rfl rfl) (rwords_any c _) (fun w1008 hm1009 => ?_))
              refine ⟨⟨hm1009.at 0 rfl, hm1009.at 1 rfl, hm1009.at 2 rfl⟩, ?_⟩
              simp only [e1, e2, e3]
              refine one_ready 9 (by kernel_rfl) ?_
              refine opd rfl rfl (m_store 4 36 _ _ (ws a) (old := ws 0) hm1009 rfl rfl rfl rfl rfl (by rw [ws_sz]; exact info_x) ((ws_sz _).trans (ws_sz _).symm) (ws_one _) (fun w1010 hm1011 => ?_))
              refine ⟨⟨hm1011.at 0 rfl, hm1011.at 1 rfl, hm1011.at 2 rfl⟩, ?_⟩
              refine one_ready 10 (by kernel_rfl) ?_
              refine opd rfl rfl (m_store 5 36 _ _ (ws b) (old := ws 0) hm1011 rfl rfl rfl rfl rfl (by rw [ws_sz]; exact info_x) ((ws_sz _).trans (ws_sz _).symm) (ws_one _) (fun w1012 hm1013 => ?_))
              refine ⟨⟨hm1013.at 0 rfl, hm1013.at 1 rfl, hm1013.at 2 rfl⟩, ?_⟩
              refine one_ready 11 (by kernel_rfl) ?_
              refine opd rfl rfl (m_store 6 36 _ _ (ws c) (old := ws 0) hm1013 rfl rfl rfl rfl rfl (by rw [ws_sz]; exact info_x) ((ws_sz _).trans (ws_sz _).symm) (ws_one _) (fun w1014 hm1015 => ?_))
              refine ⟨⟨hm1015.at 0 rfl, hm1015.at 1 rfl, hm1015.at 2 rfl⟩, ?_⟩
              refine wpAnyH_done (by kernel_rfl) ?_ _
              exact ⟨rfl, g824, g987, g1005, rfl, hm1015⟩
          · refine opd rfl rfl (m_alloc (c := ws 0) (T := 36) hm991 9 rfl (al_X rfl) (fun g1016 w1017 hm1018 => ?_))
            refine ⟨⟨hm1018.at 0 rfl, hm1018.at 1 rfl, hm1018.at 2 rfl⟩, ?_⟩
            simp only [e1, e2, e3]
            refine one_ready 3 (by kernel_rfl) ?_
            refine opd rfl rfl (m_call hm1018 27 (.agg (ws b)) rfl (run_rwords rfl rfl) (rwords_any b _) (fun w1019 hm1020 => ?_))
            refine ⟨⟨hm1020.at 0 rfl, hm1020.at 1 rfl, hm1020.at 2 rfl⟩, ?_⟩
            simp only [e1, e2, e3]
            refine one_ready 5 (by kernel_rfl) ?_
            refine opd rfl rfl (m_call hm1020 29 (.agg (ws c)) rfl (run_rwords rfl rfl) (rwords_any c _) (fun w1021 hm1022 => ?_))
            refine ⟨⟨hm1022.at 0 rfl, hm1022.at 1 rfl, hm1022.at 2 rfl⟩, ?_⟩
            simp only [e1, e2, e3]
            refine one_ready 9 (by kernel_rfl) ?_
            refine opd rfl rfl (m_store 4 36 _ _ (ws a) (old := ws 0) hm1022 rfl rfl rfl rfl rfl (by rw [ws_sz]; exact info_x) ((ws_sz _).trans (ws_sz _).symm) (ws_one _) (fun w1023 hm1024 => ?_))
            refine ⟨⟨hm1024.at 0 rfl, hm1024.at 1 rfl, hm1024.at 2 rfl⟩, ?_⟩
            refine one_ready 10 (by kernel_rfl) ?_
            refine opd rfl rfl (m_store 5 36 _ _ (ws b) (old := ws 0) hm1024 rfl rfl rfl rfl rfl (by rw [ws_sz]; exact info_x) ((ws_sz _).trans (ws_sz _).symm) (ws_one _) (fun w1025 hm1026 => ?_))
            refine ⟨⟨hm1026.at 0 rfl, hm1026.at 1 rfl, hm1026.at 2 rfl⟩, ?_⟩
            refine one_ready 11 (by kernel_rfl) ?_
            refine opd rfl rfl (m_store 6 36 _ _ (ws c) (old := ws 0) hm1026 rfl rfl rfl rfl rfl (by rw [ws_sz]; exact info_x) ((ws_sz _).trans (ws_sz _).symm) (ws_one _) (fun w1027 hm1028 => ?_))
            refine ⟨⟨hm1028.at 0 rfl, hm1028.at 1 rfl, hm1028.at 2 rfl⟩, ?_⟩
            refine wpAnyH_done (by kernel_rfl) ?_ _
            exact ⟨rfl, g824, g987, g1016, rfl, hm1028⟩
        · refine opd rfl rfl (m_alloc (c := ws 0) (T := 36) hm989 9 rfl (al_X rfl) (fun g1029 w1030 hm1031 => ?_))
          refine ⟨⟨hm1031.at 0 rfl, hm1031.at 1 rfl, hm1031.at 2 rfl⟩, ?_⟩
          simp only [e1, e2, e3]
          refine one_ready 1 (by kernel_rfl) ?_
          refine opd rfl rfl (m_call hm1031 25 (.agg (ws a)) rfl (run_rwords rfl rfl) (rwords_any a _) (fun w1032 hm1033 => ?_))
          refine ⟨⟨hm1033.at 0 rfl, hm1033.at 1 rfl, hm1033.at 2 rfl⟩, ?_⟩
          simp only [e1, e2, e3]
          refine one_ready 3 (by kernel_rfl) ?_
          refine opd rfl rfl (m_call hm1033 27 (.agg (ws b)) rfl (run_rwords rfl rfl) (rwords_any b _) (fun w1034 hm1035 => ?_))
          refine ⟨⟨hm1035.at 0 rfl, hm1035.at 1 rfl, hm1035.at 2 rfl⟩, ?_⟩
          simp only [e1, e2, e3]
          refine one_ready 5 (by kernel_rfl) ?_
          refine opd rfl rfl (m_call hm1035 29 (.agg (ws c)) rfl (run_rwords rfl rfl) (rwords_any c _) (fun w1036 hm1037 => ?_))
          refine ⟨⟨hm1037.at 0 rfl, hm1037.at 1 rfl, hm1037.at 2 rfl⟩, ?_⟩
          simp only [e1, e2, e3]
          refine one_ready 9 (by kernel_rfl) ?_
          refine opd rfl rfl (m_store 4 36 _ _ (ws a) (old := ws 0) hm1037 rfl rfl rfl rfl rfl (by rw [ws_sz]; exact info_x) ((ws_sz _).trans (ws_sz _).symm) (ws_one _) (fun w1038 hm1039 => ?_))
          refine ⟨⟨hm1039.at 0 rfl, hm1039.at 1 rfl, hm1039.at 2 rfl⟩, ?_⟩
          refine one_ready 10 (by kernel_rfl) ?_
          refine opd rfl rfl (m_store 5 36 _ _ (ws b) (old := ws 0) hm1039 rfl rfl rfl rfl rfl (by rw [ws_sz]; exact info_x) ((ws_sz _).trans (ws_sz _).symm) (ws_one _) (fun w1040 hm1041 => ?_))
          refine ⟨⟨hm1041.at 0 rfl, hm1041.at 1 rfl, hm1041.at 2 rfl⟩, ?_⟩
          refine one_ready 11 (by kernel_rfl) ?_
          refine opd rfl rfl (m_store 6 36 _ _ (ws c) (old := ws 0) hm1041 rfl rfl rfl rfl rfl (by rw [ws_sz]; exact info_x) ((ws_sz _).trans (ws_sz _).symm) (ws_one _) (fun w1042 hm1043 => ?_))
          refine ⟨⟨hm1043.at 0 rfl, hm1043.at 1 rfl, hm1043.at 2 rfl⟩, ?_⟩
          refine wpAnyH_done (by kernel_rfl) ?_ _
          exact ⟨rfl, g824, g987, g1029, rfl, hm1043⟩
      · refine opd rfl rfl (m_alloc (c := ws 0) (T := 36) hm826 9 rfl (al_X rfl) (fun g1044 w1045 hm1046 => ?_))
        refine ⟨⟨hm1046.at 0 rfl, hm1046.at 1 rfl, hm1046.at 2 rfl⟩, ?_⟩
        simp only [e1, e2, e3]
        refine two_ready 1 7 (by kernel_rfl) ?_ ?_
        · refine opd rfl rfl (m_call hm1046 25 (.agg (ws a)) rfl (run_rwords rfl rfl) (rwords_any a _) (fun w1047 hm1048 => ?_))
          refine ⟨⟨hm1048.at 0 rfl, hm1048.at 1 rfl, hm1048.at 2 rfl⟩, ?_⟩
          simp only [e1, e2, e3]
          refine two_ready 3 7 (by kernel_rfl) ?_ ?_
          · refine opd rfl rfl (m_call hm1048 27 (.agg (ws b)) rfl (run_rwords rfl rfl) (rwords_any b _) (fun w1049 hm1050 => ?_))
            refine ⟨⟨hm1050.at 0 rfl, hm1050.at 1 rfl, hm1050.at 2 rfl⟩, ?_⟩
            simp only [e1, e2, e3]
            refine two_ready 5 7 (by kernel_rfl) ?_ ?_
            · refine opd rfl rfl (m_call hm1050 29 (.agg (ws c)) rfl (run_rwords rfl rfl) (rwords_any c _) (fun w1051 hm1052 => ?_))
              refine ⟨⟨hm1052.at 0 rfl, hm1052.at 1 rfl, hm1052.at 2 rfl⟩, ?_⟩
              simp only [e1, e2, e3]
              refine one_ready 7 (by kernel_rfl) ?_
              refine opd rfl rfl (m_alloc (c := ws 0) (T := 36) hm1052 8 rfl (al_X rfl) (fun g1053 w1054 hm1055 => ?_))
              refine ⟨⟨hm1055.at 0 rfl, hm1055.at 1 rfl, hm1055.at 2 rfl⟩, ?_⟩
              simp only [e1, e2, e3]
              refine one_ready 9 (by kernel_rfl) ?_
              refine opd rfl rfl (m_store 4 36 _ _ (ws a) (old := ws 0) hm1055 rfl rfl rfl rfl rfl (by rw [ws_sz]; exact info_x) ((ws_sz _).trans (ws_sz _).symm) (ws_one _) (fun w1056 hm1057 => ?_))
              refine ⟨⟨hm1057.at 0 rfl, hm1057.at 1 rfl, hm1057.at 2 rfl⟩, ?_⟩
              refine one_ready 10 (by kernel_rfl) ?_
              refine opd rfl rfl (m_store 6 36 _ _ (ws b) (old := ws 0) hm1057 rfl rfl rfl rfl rfl (by rw [ws_sz]; exact info_x) ((ws_sz _).trans (ws_sz _).symm) (ws_one _) (fun w1058 hm1059 => ?_))
              refine ⟨⟨hm1059.at 0 rfl, hm1059.at 1 rfl, hm1059.at 2 rfl⟩, ?_⟩
              refine one_ready 11 (by kernel_rfl) ?_
              refine opd rfl rfl (m_store 5 36 _ _ (ws c) (old := ws 0) hm1059 rfl rfl rfl rfl rfl (by rw [ws_sz]; exact info_x) ((ws_sz _).trans (ws_sz _).symm) (ws_one _) (fun w1060 hm1061 => ?_))
              refine ⟨⟨hm1061.at 0 rfl, hm1061.at 1 rfl, hm1061.at 2 rfl⟩, ?_⟩
              refine wpAnyH_done (by kernel_rfl) ?_ _
              exact ⟨rfl, g824, g1053, g1044, rfl, (Mm.reorder hm1061 [0, 1, 2, 3, 4, 6, 5] (by decide) rfl)⟩
            · refine opd rfl rfl (m_alloc (c := ws 0) (T := 36) hm1050 8 rfl (al_X rfl) (fun g1062 w1063 hm1064 => ?_))
              refine ⟨⟨hm1064.at 0 rfl, hm1064.at 1 rfl, hm1064.at 2 rfl⟩, ?_⟩
              simp only [e1, e2, e3]
              refine one_ready 5 (by kernel_rfl) ?_
              refine opd rfl rfl (m_call hm1064 29 (.agg (ws c)) rfl (run_rwords rfl rfl) (rwords_any c _) (fun w1065 hm1066 => ?_))
              refine ⟨⟨hm1066.at 0 rfl, hm1066.at 1 rfl, hm1066.at 2 rfl⟩, ?_⟩
              simp only [e1, e2, e3]
              refine one_ready 9 (by kernel_rfl) ?_
              refine opd rfl rfl (m_store 4 36 _ _ (ws a) (old := ws 0) hm1066 rfl rfl rfl rfl rfl (by rw [ws_sz]; exact info_x) ((ws_sz _).trans (ws_sz _).symm) (ws_one _) (fun w1067 hm1068 => ?_))
              refine ⟨⟨hm1068.at 0 rfl, hm1068.at 1 rfl, hm1068.at 2 rfl⟩, ?_⟩
              refine one_ready 10 (by kernel_rfl) ?_
              refine opd rfl rfl (m_store 6 36 _ _ (ws b) (old := ws 0) hm1068 rfl rfl rfl rfl rfl (by rw [ws_sz]; exact info_x) ((ws_sz _).trans (ws_sz _).symm) (ws_one _) (fun w1069 hm1070 => ?_))
              refine ⟨⟨hm1070.at 0 rfl, hm1070.at 1 rfl, hm1070.at 2 rfl⟩, ?_⟩
              refine one_ready 11 (by kernel_rfl) ?_
              refine opd rfl rfl (m_store 5 36 _ _ (ws c) (old := ws 0) hm1070 rfl rfl rfl rfl rfl (by rw [ws_sz]; exact info_x) ((ws_sz _).trans (ws_sz _).symm) (ws_one _) (fun w1071 hm1072 => ?_))
              refine ⟨⟨hm1072.at 0 rfl, hm1072.at 1 rfl, hm1072.at 2 rfl⟩, ?_⟩
              refine wpAnyH_done (by kernel_rfl) ?_ _
              exact ⟨rfl, g824, g1062, g1044, rfl, (Mm.reorder hm1072 [0, 1, 2, 3, 4, 6, 5] (by decide) rfl)⟩
          · refine opd rfl rfl (m_alloc (c := ws 0) (T := 36) hm1048 8 rfl (al_X rfl) (fun g1073 w1074 hm1075 => ?_))
            refine ⟨⟨hm1075.at 0 rfl, hm1075.at 1 rfl, hm1075.at 2 rfl⟩, ?_⟩
            simp only [e1, e2, e3]
            refine one_ready 3 (by kernel_rfl) ?_
            refine opd rfl rfl (m_call hm1075 27 (.agg (ws b)) rfl (run_rwords rfl rfl) (rwords_any b _) (fun w1076 hm1077 => ?_))
            refine ⟨⟨hm1077.at 0 rfl, hm1077.at 1 rfl, hm1077.at 2 rfl⟩, ?_⟩
            simp only [e1, e2, e3]
            refine one_ready 5 (by kernel_rfl) ?_
            refine opd rfl rfl (m_call hm1077 29 (.agg (ws c)) rfl (run_rwords rfl rfl) (rwords_any c _) (fun w1078 hm1079 => ?_))
            refine ⟨⟨hm1079.at 0 rfl, hm1079.at 1 rfl, hm1079.at 2 rfl⟩, ?_⟩
            simp only [e1, e2, e3]
            refine one_ready 9 (by kernel_rfl) ?_
            refine opd rfl rfl (m_store 4 36 _ _ (ws a) (old := ws 0) hm1079 rfl rfl rfl rfl rfl (by rw [ws_sz]; exact info_x) ((ws_sz _).trans (ws_sz _).symm) (ws_one _) (fun w1080 hm1081 => ?_))
            refine ⟨⟨hm1081.at 0 rfl, hm1081.at 1 rfl, hm1081.at 2 rfl⟩, ?_⟩
            refine one_ready 10 (by kernel_rfl) ?_
            refine opd rfl rfl (m_store 6 36 _ _ (ws b) (old := ws 0) hm1081 rfl rfl rfl rfl rfl (by rw [ws_sz]; exact info_x) ((ws_sz _).trans (ws_sz _).symm) (ws_one _) (fun w1082 hm1083 => ?_))
            refine ⟨⟨hm1083.at 0 rfl, hm1083.at 1 rfl, hm1083.at 2 rfl⟩, ?_⟩
            refine one_ready 11 (by kernel_rfl) ?_
            refine opd rfl rfl (m_store 5 36 _ _ (ws c) (old := ws 0) hm1083 rfl rfl rfl rfl rfl (by rw [ws_sz]; exact info_x) ((ws_sz _).trans (ws_sz _).symm) (ws_one _) (fun w1084 hm1085 => ?_))
            refine ⟨⟨hm1085.at 0 rfl, hm1085.at 1 rfl, hm1085.at 2 rfl⟩, ?_⟩
            refine wpAnyH_done (by kernel_rfl) ?_ _
            exact ⟨rfl, g824, g1073, g1044, rfl, (Mm.reorder hm1085 [0, 1, 2, 3, 4, 6, 5] (by decide) rfl)⟩
        · refine opd rfl rfl (m_alloc (c := ws 0) (T := 36) hm1046 8 rfl (al_X rfl) (fun g1086 w1087 hm1088 => ?_))
          refine ⟨⟨hm1088.at 0 rfl, hm1088.at 1 rfl, hm1088.at 2 rfl⟩, ?_⟩
          simp only [e1, e2, e3]
          refine one_ready 1 (by kernel_rfl) ?_
          refine opd rfl rfl (m_call hm1088 25 (.agg (ws a)) rfl (run_rwords rfl rfl) (rwords_any a _) (fun w1089 hm1090 => ?_))
          refine ⟨⟨hm1090.at 0 rfl, hm1090.at 1 rfl, hm1090.at 2 rfl⟩, ?_⟩
          simp only [e1, e2, e3]
          refine one_ready 3 (by kernel_rfl) ?_
          refine opd rfl rfl (m_call hm1090 27 (.agg (ws b)) rfl (run_rwords rfl rfl) (rwords_any b _) (fun w1091 hm1092 => ?_))
          refine ⟨⟨hm1092.at 0 rfl, hm1092.at 1 rfl, hm1092.at 2 rfl⟩, ?_⟩
          simp only [e1, e2, e3]
          refine one_ready 5 (by kernel_rfl) ?_
          refine opd rfl rfl (m_call hm1092 29 (.agg (ws c)) rfl (run_rwords rfl rfl) (rwords_any c _) (fun w1093 hm1094 => ?_))
          refine ⟨⟨hm1094.at 0 rfl, hm1094.at 1 rfl, hm1094.at 2 rfl⟩, ?_⟩
          simp only [e1, e2, e3]
          refine one_ready 9 (by kernel_rfl) ?_
          refine opd rfl rfl (m_store 4 36 _ _ (ws a) (old := ws 0) hm1094 rfl rfl rfl rfl rfl (by rw [ws_sz]; exact info_x) ((ws_sz _).trans (ws_sz _).symm) (ws_one _) (fun w1095 hm1096 => ?_))
          refine ⟨⟨hm1096.at 0 rfl, hm1096.at 1 rfl, hm1096.at 2 rfl⟩, ?_⟩
          refine one_ready 10 (by kernel_rfl) ?_
          refine opd rfl rfl (m_store 6 36 _ _ (ws b) (old := ws 0) hm1096 rfl rfl rfl rfl rfl (by rw [ws_sz]; exact info_x) ((ws_sz _).trans (ws_sz _).symm) (ws_one _) (fun w1097 hm1098 => ?_))
          refine ⟨⟨hm1098.at 0 rfl, hm1098.at 1 rfl, hm1098.at 2 rfl⟩, ?_⟩
          refine one_ready 11 (by kernel_rfl) ?_
          refine opd rfl rfl (m_store 5 36 _ _ (ws c) (old := ws 0) hm1098 rfl rfl rfl rfl rfl (by rw [ws_sz]; exact info_x) ((ws_sz _).trans (ws_sz _).symm) (ws_one _) (fun w1099 hm1100 => ?_))
          refine ⟨⟨hm1100.at 0 rfl, hm1100.at 1 rfl, hm1100.at 2 rfl⟩, ?_⟩
          refine wpAnyH_done (by kernel_rfl) ?_ _
          exact ⟨rfl, g824, g1086, g1044, rfl, (Mm.reorder hm1100 [0, 1, 2, 3, 4, 6, 5] (by decide) rfl)⟩
    · refine opd rfl rfl (m_alloc (c := ws 0) (T := 36) hm15 8 rfl (al_X rfl) (fun g1101 w1102 hm1103 => ?_))
      refine ⟨⟨hm1103.at 0 rfl, hm1103.at 1 rfl, hm1103.at 2 rfl⟩, ?_⟩
      simp only [e1, e2, e3]
      refine three_ready 1 6 8 (by kernel_rfl) ?_ ?_ ?_
      · refine opd rfl rfl (m_call hm1103 25 (.agg (ws a)) rfl (run_rwords rfl rfl) (rwords_any a _) (fun w1104 hm1105 => ?_))
        refine ⟨⟨hm1105.at 0 rfl, hm1105.at 1 rfl, hm1105.at 2 rfl⟩, ?_⟩
        simp only [e1, e2, e3]
        refine three_ready 3 6 8 (by kernel_rfl) ?_ ?_ ?_
        · refine opd rfl rfl (m_call hm1105 27 (.agg (ws b)) rfl (run_rwords rfl rfl) (rwords_any b _) (fun w1106 hm1107 => ?_))
          refine ⟨⟨hm1107.at 0 rfl, hm1107.at 1 rfl, hm1107.at 2 rfl⟩, ?_⟩
          simp only [e1, e2, e3]
          refine three_ready 5 6 8 (by kernel_rfl) ?_ ?_ ?_
          · refine opd rfl rfl (m_call hm1107 29 (.agg (ws c)) rfl (run_rwords rfl rfl) (rwords_any c _) (fun w1108 hm1109 => ?_))
            refine ⟨⟨hm1109.at 0 rfl, hm1109.at 1 rfl, hm1109.at 2 rfl⟩, ?_⟩
            simp only [e1, e2, e3]
            refine two_ready 6 8 (by kernel_rfl) ?_ ?_
            · refine opd rfl rfl (m_alloc (c := ws 0) (T := 36) hm1109 7 rfl (al_X rfl) (fun g1110 w1111 hm1112 => ?_))
              refine ⟨⟨hm1112.at 0 rfl, hm1112.at 1 rfl, hm1112.at 2 rfl⟩, ?_⟩
              simp only [e1, e2, e3]
              refine one_ready 8 (by kernel_rfl) ?_
              refine opd rfl rfl (m_alloc (c := ws 0) (T := 36) hm1112 9 rfl (al_X rfl) (fun g1113 w1114 hm1115 => ?_))
              refine ⟨⟨hm1115.at 0 rfl, hm1115.at 1 rfl, hm1115.at 2 rfl⟩, ?_⟩
              simp only [e1, e2, e3]
              refine one_ready 9 (by kernel_rfl) ?_
              refine opd rfl rfl (m_store 5 36 _ _ (ws a) (old := ws 0) hm1115 rfl rfl rfl rfl rfl (by rw [ws_sz]; exact info_x) ((ws_sz _).trans (ws_sz _).symm) (ws_one _) (fun w1116 hm1117 => ?_))
              refine ⟨⟨hm1117.at 0 rfl, hm1117.at 1 rfl, hm1117.at 2 rfl⟩, ?_⟩
              refine one_ready 10 (by kernel_rfl) ?_
              refine opd rfl rfl (m_store 4 36 _ _ (ws b) (old := ws 0) hm1117 rfl rfl rfl rfl rfl (by rw [ws_sz]; exact info_x) ((ws_sz _).trans (ws_sz _).symm) (ws_one _) (fun w1118 hm1119 => ?_))
              refine ⟨⟨hm1119.at 0 rfl, hm1119.at 1 rfl, hm1119.at 2 rfl⟩, ?_⟩
              refine one_ready 11 (by kernel_rfl) ?_
              refine opd rfl rfl (m_store 6 36 _ _ (ws c) (old := ws 0) hm1119 rfl rfl rfl rfl rfl (by rw [ws_sz]; exact info_x) ((ws_sz _).trans (ws_sz _).symm) (ws_one _) (fun w1120 hm1121 => ?_))
              refine ⟨⟨hm1121.at 0 rfl, hm1121.at 1 rfl, hm1121.at 2 rfl⟩, ?_⟩
              refine wpAnyH_done (by kernel_rfl) ?_ _
              exact ⟨rfl, g1110, g1101, g1113, rfl, (Mm.reorder hm1121 [0, 1, 2, 3, 5, 4, 6] (by decide) rfl)⟩
            · refine opd rfl rfl (m_alloc (c := ws 0) (T := 36) hm1109 9 rfl (al_X rfl) (fun g1122 w1123 hm1124 => ?_))
              refine ⟨⟨hm1124.at 0 rfl, hm1124.at 1 rfl, hm1124.at 2 rfl⟩, ?_⟩
              simp only [e1, e2, e3]
              refine one_ready 6 (by kernel_rfl) ?_
              refine opd rfl rfl (m_alloc (c := ws 0) (T := 36) hm1124 7 rfl (al_X rfl) (fun g1125 w1126 hm1127 => ?_))
              refine ⟨⟨hm1127.at 0 rfl, hm1127.at 1 rfl, hm1127.at 2 rfl⟩, ?_⟩
              simp only [e1, e2, e3]
              refine one_ready 9 (by kernel_rfl) ?_
              refine opd rfl rfl (m_store 6 36 _ _ (ws a) (old := ws 0) hm1127 rfl rfl rfl rfl rfl (by rw [ws_sz]; exact info_x) ((ws_sz _).trans (ws_sz _).symm) (ws_one _) (fun w1128 hm1129 => ?_))
              refine ⟨⟨hm1129.at 0 rfl, hm1129.at 1 rfl, hm1129.at 2 rfl⟩, ?_⟩
              refine one_ready 10 (by kernel_rfl) ?_
              refine opd rfl rfl (m_store 4 36 _ _ (ws b) (old := ws 0) hm1129 rfl rfl rfl rfl rfl (by rw [ws_sz]; exact info_x) ((ws_sz _).trans (ws_sz _).symm) (ws_one _) (fun w1130 hm1131 => ?_))
              refine ⟨⟨hm1131.at 0 rfl, hm1131.at 1 rfl, hm1131.at 2 rfl⟩, ?_⟩
              refine one_ready 11 (by kernel_rfl) ?_
              refine opd rfl rfl (m_store 5 36 _ _ (ws c) (old := ws 0) hm1131 rfl rfl rfl rfl rfl (by rw [ws_sz]; exact info_x) ((ws_sz _).trans (ws_sz _).symm) (ws_one _) (fun w1132 hm1133 => ?_))
              refine ⟨⟨hm1133.at 0 rfl, hm1133.at 1 rfl, hm1133.at 2 rfl⟩, ?_⟩
              refine wpAnyH_done (by kernel_rfl) ?_ _
              exact ⟨rfl, g1125, g1101, g1122, rfl, (Mm.reorder hm1133 [0, 1, 2, 3, 6, 4, 5] (by decide) rfl)⟩
          · refine opd rfl rfl (m_alloc (c := ws 0) (T := 36) hm1107 7 rfl (al_X rfl) (fun g1134 w1135 hm1136 => ?_))
            refine ⟨⟨hm1136.at 0 rfl, hm1136.at 1 rfl, hm1136.at 2 rfl⟩, ?_⟩
            simp only [e1, e2, e3]
            refine two_ready 5 8 (by kernel_rfl) ?_ ?_
            · refine opd rfl rfl (m_call hm1136 29 (.agg (ws c)) rfl (run_rwords rfl rfl) (rwords_any c _) (fun w1137 hm1138 => ?_))
              refine ⟨⟨hm1138.at 0 rfl, hm1138.at 1 rfl, hm1138.at 2 rfl⟩, ?_⟩
              simp only [e1, e2, e3]
              refine one_ready 8 (by kernel_rfl) ?_
              refine opd rfl rfl (m_alloc (c := ws 0) (T := 36) hm1138 9 rfl (al_X rfl) (fun g1139 w1140 hm1141 => ?_))
              refine ⟨⟨hm1141.at 0 rfl, hm1141.at 1 rfl, hm1141.at 2 rfl⟩, ?_⟩
              simp only [e1, e2, e3]
              refine one_ready 9 (by kernel_rfl) ?_
              refine opd rfl rfl (m_store 5 36 _ _ (ws a) (old := ws 0) hm1141 rfl rfl rfl rfl rfl (by rw [ws_sz]; exact info_x) ((ws_sz _).trans (ws_sz _).symm) (ws_one _) (fun w1142 hm1143 => ?_))
              refine ⟨⟨hm1143.at 0 rfl, hm1143.at 1 rfl, hm1143.at 2 rfl⟩, ?_⟩
              refine one_ready 10 (by kernel_rfl) ?_
              refine opd rfl rfl (m_store 4 36 _ _ (ws b) (old := ws 0) hm1143 rfl rfl rfl rfl rfl (by rw [ws_sz]; exact info_x) ((ws_sz _).trans (ws_sz _).symm) (ws_one _) (fun w1144 hm1145 => ?_))
              refine ⟨⟨hm1145.at 0 rfl, hm1145.at 1 rfl, hm1145.at 2 rfl⟩, ?_⟩
              refine one_ready 11 (by kernel_rfl) ?_
              refine opd rfl rfl (m_store 6 36 _ _ (ws c) (old := ws 0) hm1145 rfl rfl rfl rfl rfl (by rw [ws_sz]; exact info_x) ((ws_sz _).trans (ws_sz _).symm) (ws_one _) (fun w1146 hm1147 => ?_))
              refine ⟨⟨hm1147.at 0 rfl, hm1147.at 1 rfl, hm1147.at 2 rfl⟩, ?_⟩
              refine wpAnyH_done (by kernel_rfl) ?_ _
              exact ⟨rfl, g1134, g1101, g1139, rfl, (Mm.reorder hm1147 [0, 1, 2, 3, 5, 4, 6] (by decide) rfl)⟩
            · refine opd rfl rfl (m_alloc (c := ws 0) (T := 36) hm1136 9 rfl (al_X rfl) (fun g1148 w1149 hm1150 => ?_))
              refine ⟨⟨hm1150.at 0 rfl, hm1150.at 1 rfl, hm1150.at 2 rfl⟩, ?_⟩
              simp only [e1, e2, e3]
              refine one_ready 5 (by kernel_rfl) ?_
              refine opd rfl rfl (m_call hm1150 29 (.agg (ws c)) rfl (run_rwords rfl rfl) (rwords_any c _) (fun w1151 hm1152 => ?_))
              refine ⟨⟨hm1152.at 0 rfl, hm1152.at 1 rfl, hm1152.at 2 rfl⟩, ?_⟩
              simp only [e1, e2, e3]
              refine one_ready 9 (by kernel_rfl) ?_
              refine opd rfl rfl (m_store 5 36 _ _ (ws a) (old := ws 0) hm1152 rfl rfl rfl rfl rfl (by rw [ws_sz]; exact info_x) ((ws_sz _).trans (ws_sz _).symm) (ws_one _) (fun w1153 hm1154 => ?_))
              refine ⟨⟨hm1154.at 0 rfl, hm1154.at 1 rfl, hm1154.at 2 rfl⟩, ?_⟩
              refine one_ready 10 (by kernel_rfl) ?_
              refine opd rfl rfl (m_store 4 36 _ _ (ws b) (old := ws 0) hm1154 rfl rfl rfl rfl rfl (by rw [ws_sz]; exact info_x) ((ws_sz _).trans (ws_sz _).symm) (ws_one _) (fun w1155 hm1156 => ?_))
              refine ⟨⟨hm1156.at 0 rfl, hm1156.at 1 rfl, hm1156.at 2 rfl⟩, ?_⟩
              refine one_ready 11 (by kernel_rfl) ?_
              refine opd rfl rfl (m_store 6 36 _ _ (ws c) (old := ws 0) hm1156 rfl rfl rfl rfl rfl (by rw [ws_sz]; exact info_x) ((ws_sz _).trans (ws_sz _).symm) (ws_one _) (fun w1157 hm1158 => ?_))
              refine ⟨⟨hm1158.at 0 rfl, hm1158.at 1 rfl, hm1158.at 2 rfl⟩, ?_⟩
              refine wpAnyH_done (by kernel_rfl) ?_ _
              exact ⟨rfl, g1134, g1101, g1148, rfl, (Mm.reorder hm1158 [0, 1, 2, 3, 5, 4, 6] (by decide) rfl)⟩
          · refine opd rfl rfl (m_alloc (c := ws 0) (T := 36) hm1107 9 rfl (al_X rfl) (fun g1159 w1160 hm1161 => ?_))
            refine ⟨⟨hm1161.at 0 rfl, hm1161.at 1 rfl, hm1161.at 2 rfl⟩, ?_⟩
            simp only [e1, e2, e3]
            refine two_ready 5 6 (by kernel_rfl) ?_ ?_
            · refine opd rfl rfl (m_call hm1161 29 (.agg (ws c)) rfl (run_rwords rfl rfl) (rwords_any c _) (fun w1162 hm1163 => ?_))
              refine ⟨⟨hm1163.at 0 rfl, hm1163.at 1 rfl, hm1163.at 2 rfl⟩, ?_⟩
              simp only [e1, e2, e3]
              refine one_ready 6 (by kernel_rfl) ?_
              refine opd rfl rfl (m_alloc (c := ws 0) (T := 36) hm1163 7 rfl (al_X rfl) (fun g1164 w1165 hm1166 => ?_))
              refine ⟨⟨hm1166.at 0 rfl, hm1166.at 1 rfl, hm1166.at 2 rfl⟩, ?_⟩
              simp only [e1, e2, e3]
              refine one_ready 9 (by kernel_rfl) ?_
              refine opd rfl rfl (m_store 6 36 _ _ (ws a) (old := ws 0) hm1166 rfl rfl rfl rfl rfl (by rw [ws_sz]; exact info_x) ((ws_sz _).trans (ws_sz _).symm) (ws_one _) (fun w1167 hm1168 => ?_))
              refine ⟨⟨hm1168.at 0 rfl, hm1168.at 1 rfl, hm1168.at 2 rfl⟩, ?_⟩
              refine one_ready 10 (by kernel_rfl) ?_
              refine opd rfl rfl (m_store 4 36 _ _ (ws b) (old := ws 0) hm1168 rfl rfl rfl rfl rfl (by rw [ws_sz]; exact info_x) ((ws_sz _).trans (ws_sz _).symm) (ws_one _) (fun w1169 hm1170 => ?_))
              refine ⟨⟨hm1170.at 0 rfl, hm1170.at 1 rfl, hm1170.at 2 rfl⟩, ?_⟩
              refine one_ready 11 (by kernel_rfl) ?_
              refine opd rfl rfl (m_store 5 36 _ _ (ws c) (old := ws 0) hm1170 rfl rfl rfl rfl rfl (by rw [ws_sz]; exact info_x) ((ws_sz _).trans (ws_sz _).symm) (ws_one _) (fun w1171 hm1172 => ?_))
              refine ⟨⟨hm1172.at 0 rfl, hm1172.at 1 rfl, hm1172.at 2 rfl⟩, ?_⟩
              refine wpAnyH_done (by kernel_rfl) ?_ _
              exact ⟨rfl, g1164, g1101, g1159, rfl, (Mm.reorder hm1172 [0, 1, 2, 3, 6, 4, 5] (by decide) rfl)⟩
            · refine opd rfl rfl (m_alloc (c := ws 0) (T := 36) hm1161 7 rfl (al_X rfl) (fun g1173 w1174 hm1175 => ?_))
              refine ⟨⟨hm1175.at 0 rfl, hm1175.at 1 rfl, hm1175.at 2 rfl⟩, ?_⟩
              simp only [e1, e2, e3]
              refine one_ready 5 (by kernel_rfl) ?_
              refine opd rfl rfl (m_call hm1175 29 (.agg (ws c)) rfl (run_rwords rfl rfl) (rwords_any c _) (fun w1176 hm1177 => ?_))
              refine ⟨⟨hm1177.at 0 rfl, hm1177.at 1 rfl, hm1177.at 2 rfl⟩, ?_⟩
              simp only [e1, e2, e3]
              refine one_ready 9 (by kernel_rfl) ?_
              refine opd rfl rfl (m_store 6 36 _ _ (ws a) (old := ws 0) hm1177 rfl rfl rfl rfl rfl (by rw [ws_sz]; exact info_x) ((ws_sz _).trans (ws_sz _).symm) (ws_one _) (fun w1178 hm1179 => ?_))
              refine ⟨⟨hm1179.at 0 rfl, hm1179.at 1 rfl, hm1179.at 2 rfl⟩, ?_⟩
              refine one_ready 10 (by kernel_rfl) ?_
              refine opd rfl rfl (m_store 4 36 _ _ (ws b) (old := ws 0) hm1179 rfl rfl rfl rfl rfl (by rw [ws_sz]; exact info_x) ((ws_sz _).trans (ws_sz _).symm) (ws_one _) (fun w1180 hm1181 => ?_))
              refine ⟨⟨hm1181.at 0 rfl, hm1181.at 1 rfl, hm1181.at 2 rfl⟩, ?_⟩
              refine one_ready 11 (by kernel_rfl) ?_
              refine opd rfl rfl (m_store 5 36 _ _ (ws c) (old := ws 0) hm1181 rfl rfl rfl rfl rfl (by rw [ws_sz]; exact info_x) ((ws_sz _).trans (ws_sz _).symm) (ws_one _) (fun w1182 hm1183 => ?_))
              refine ⟨⟨hm1183.at 0 rfl, hm1183.at 1 rfl, hm1183.at 2 rfl⟩, ?_⟩
              refine wpAnyH_done (by kernel_rfl) ?_ _
              exact ⟨rfl, g1173, g1101, g1159, rfl, (Mm.reorder hm1183 [0, 1, 2, 3, 6, 4, 5] (by decide) rfl)⟩
        · refine opd rfl rfl (m_alloc (c := ws 0) (T := 36) hm1105 7 rfl (al_X rfl) (fun g1184 w1185 hm1186 => ?_))
          refine ⟨⟨hm1186.at 0 rfl, hm1186.at 1 rfl, hm1186.at 2 rfl⟩, ?_⟩
          simp only [e1, e2, e3]
          refine two_ready 3 8 (by kernel_rfl) ?_ ?_
          · refine opd rfl rfl (m_call hm1186 27 (.agg (ws b)) rfl (run_rwords rfl rfl) (rwords_any b _) (fun w1187 hm1188 => ?_))
            refine ⟨⟨hm1188.at 0 rfl, hm1188.at 1 rfl, hm1188.at 2 rfl⟩, ?_⟩
            simp only [e1, e2, e3]
            refine two_ready 5 8 (by kernel_rfl) ?_ ?_
            · refine opd rfl rfl (m_call hm1188 29 (.agg (ws c)) rfl (run_rwords rfl rfl) (rwords_any c _) (fun w1189 hm1190 => ?_))
              refine ⟨⟨hm1190.at 0 rfl, hm1190.at 1 rfl, hm1190.at 2 rfl⟩, ?_⟩
              simp only [e1, e2, e3]
              refine one_ready 8 (by kernel_rfl) ?_
              refine opd rfl rfl (m_alloc (c := ws 0) (T := 36) hm1190 9 rfl (al_X rfl) (fun g1191 w1192 hm1193 => ?_))
              refine ⟨⟨hm1193.at 0 rfl, hm1193.at 1 rfl, hm1193.at 2 rfl⟩, ?_⟩
              simp only [e1, e2, e3]
              refine one_ready 9 (by kernel_rfl) ?_
              refine opd rfl rfl (m_store 5 36 _ _ (ws a) (old := ws 0) hm1193 rfl rfl rfl rfl rfl (by rw [ws_sz]; exact info_x) ((ws_sz _).trans (ws_sz _).symm) (ws_one _) (fun w1194 hm1195 => ?_))
              refine ⟨⟨hm1195.at 0 rfl, hm1195.at 1 rfl, hm1195.at 2 rfl⟩, ?_⟩
              refine one_ready 10 (by kernel_rfl) ?_
              refine opd rfl rfl (m_store 4 36 _ _ (ws b) (old := ws 0) hm1195 rfl rfl rfl rfl rfl (by rw [ws_sz]; exact info_x) ((ws_sz _).trans (ws_sz _).symm) (ws_one _) (fun w1196 hm1197 => ?_))
              refine ⟨⟨hm1197.at 0 rfl, hm1197.at 1 rfl, hm1197.at 2 rfl⟩, ?_⟩
              refine one_ready 11 (by kernel_rfl) ?_
              refine opd rfl rfl (m_store 6 36 _ _ (ws c) (old := ws 0) hm1197 rfl rfl rfl rfl rfl (by rw [ws_sz]; exact info_x) ((ws_sz _).trans (ws_sz _).symm) (ws_one _) (fun w1198 hm1199 => ?_))
              refine ⟨⟨hm1199.at 0 rfl, hm1199.at 1 rfl, hm1199.at 2 rfl⟩, ?_⟩
              refine wpAnyH_done (by kernel_rfl) ?_ _
              exact ⟨rfl, g1184, g1101, g1191, rfl, (Mm.reorder hm1199 [0, 1, 2, 3, 5, 4, 6] (by decide) rfl)⟩
            · refine opd rfl rfl (m_alloc (c := ws 0) (T := 36) hm1188 9 rfl (al_X rfl) (fun g1200 w1201 hm1202 => ?_))
              refine ⟨⟨hm1202.at 0 rfl, hm1202.at 1 rfl, hm1202.at 2 rfl⟩, ?_⟩
              simp only [e1, e2, e3]
              refine one_ready 5 (by kernel_rfl) ?_
              refine opd rfl rfl (m_call hm1202 29 (.agg (ws c)) rfl (run_rwords rfl rfl) (rwords_any c _) (fun w1203 hm1204 => ?_))
              refine ⟨⟨hm1204.at 0 rfl, hm1204.at 1 rfl, hm1204.at 2 rfl⟩, ?_⟩
              simp only [e1, e2, e3]
              refine one_ready 9 (by kernel_rfl) ?_
              refine opd rfl rfl (m_store 5 36 _ _ (ws a) (old := ws 0) hm1204 rfl rfl rfl rfl rfl (by rw [ws_sz]; exact info_x) ((ws_sz _).trans (ws_sz _).symm) (ws_one _) (fun w1205 hm1206 => ?_))
              refine ⟨⟨hm1206.at 0 rfl, hm1206.at 1 rfl, hm1206.at 2 rfl⟩, ?_⟩
              refine one_ready 10 (by kernel_rfl) ?_
              refine opd rfl rfl (m_store 4 36 _ _ (ws b) (old := ws 0) hm1206 rfl rfl rfl rfl rfl (by rw [ws_sz]; exact info_x) ((ws_sz _).trans (ws_sz _).symm) (ws_one _) (fun w1207 hm1208 => ?_))
              refine ⟨⟨hm1208.at 0 rfl, hm1208.at 1 rfl, hm1208.at 2 rfl⟩, ?_⟩
              refine one_ready 11 (by kernel_rfl) ?_
              refine opd rfl rfl (m_store 6 36 _ _ (ws c) (old := ws 0) hm1208 rfl rfl rfl rfl rfl (by rw [ws_sz]; exact info_x) ((ws_sz _).trans (ws_sz _).symm) (ws_one _) (fun w1209 hm1210 => ?_))
              refine ⟨⟨hm1210.at 0 rfl, hm1210.at 1 rfl, hm1210.at 2 rfl⟩, ?_⟩
              refine wpAnyH_done (by kernel_rfl) ?_ _
              exact ⟨rfl, g1184, g1101, g1200, rfl, (Mm.reorder hm1210 [0, 1, 2, 3, 5, 4, 6] (by decide) rfl)⟩
          · refine opd rfl rfl (m_alloc (c := ws 0) (T := 36) hm1186 9 rfl (al_X rfl) (fun g1211 w1212 hm1213 => ?_))
            refine ⟨⟨hm1213.at 0 rfl, hm1213.at 1 rfl, hm1213.at 2 rfl⟩, ?_⟩
            simp only [e1, e2, e3]
            refine one_ready 3 (by kernel_rfl) ?_
            refine opd rfl rfl (m_call hm1213 27 (.agg (ws b)) rfl (run_rwords rfl rfl) (rwords_any b _) (fun w1214 hm1215 => ?_))
            refine ⟨⟨hm1215.at 0 rfl, hm1215.at 1 rfl, hm1215.at 2 rfl⟩, ?_⟩
            simp only [e1, e2, e3]
            refine one_ready 5 (by kernel_rfl) ?_
            refine opd rfl rfl (m_call hm1215 29 (.agg (ws c)) rfl (run_rwords rfl rfl) (rwords_any c _) (fun w1216 hm1217 => ?_))
            refine ⟨⟨hm1217.at 0 rfl, hm1217.at 1 rfl, hm1217.at 2 rfl⟩, ?_⟩
            simp only [e1, e2, e3]
            refine one_ready 9 (by kernel_rfl) ?_
            refine opd rfl rfl (m_store 5 36 _ _ (ws a) (old := ws 0) hm1217 rfl rfl rfl rfl rfl (by rw [ws_sz]; exact info_x) ((ws_sz _).trans (ws_sz _).symm) (ws_one _) (fun w1218 hm1219 => ?_))
            refine ⟨⟨hm1219.at 0 rfl, hm1219.at 1 rfl, hm1219.at 2 rfl⟩, ?_⟩
            refine one_ready 10 (by kernel_rfl) ?_
            refine opd rfl rfl (m_store 4 36 _ _ (ws b) (old := ws 0) hm1219 rfl rfl rfl rfl rfl (by rw [ws_sz]; exact info_x) ((ws_sz _).trans (ws_sz _).symm) (ws_one _) (fun w1220 hm1221 => ?_))
            refine ⟨⟨hm1221.at 0 rfl, hm1221.at 1 rfl, hm1221.at 2 rfl⟩, ?_⟩
            refine one_ready 11 (by kernel_rfl) ?_
            refine opd rfl rfl (m_store 6 36 _ _ (ws c) (old := ws 0) hm1221 rfl rfl rfl rfl rfl (by rw [ws_sz]; exact info_x) ((ws_sz _).trans (ws_sz _).symm) (ws_one _) (fun w1222 hm1223 => ?_))
            refine ⟨⟨hm1223.at 0 rfl, hm1223.at 1 rfl, hm1223.at 2 rfl⟩, ?_⟩
            refine wpAnyH_done (by kernel_rfl) ?_ _
            exact ⟨rfl, g1184, g1101, g1211, rfl, (Mm.reorder hm1223 [0, 1, 2, 3, 5, 4, 6] (by decide) rfl)⟩
        · refine opd rfl rfl (m_alloc (c := ws 0) (T := 36) hm1105 9 rfl (al_X rfl) (fun g1224 w1225 hm1226 => ?_))
          refine ⟨⟨hm1226.at 0 rfl, hm1226.at 1 rfl, hm1226.at 2 rfl⟩, ?_⟩
          simp only [e1, e2, e3]
          refine two_ready 3 6 (by kernel_rfl) ?_ ?_
          · refine opd rfl rfl (m_call hm1226 27 (.agg (ws b)) rfl (run_rwords rfl rfl) (rwords_any b _) (fun w1227 hm1228 => ?_))
            refine ⟨⟨hm1228.at 0 rfl, hm1228.at 1 rfl, hm1228.at 2 rfl⟩, ?_⟩
            simp only [e1, e2, e3]
            refine two_ready 5 6 (by kernel_rfl) ?_ ?_
            · refine opd rfl rfl (m_call hm1228 29 (.agg (ws c)) rfl (run_rwords rfl rfl) (rwords_any c _) (fun w1229 hm1230 => ?_))
              refine ⟨⟨hm1230.at 0 rfl, hm1230.at 1 rfl, hm1230.at 2 rfl⟩, ?_⟩
              simp only [e1, e2, e3]
              refine one_ready 6 (by kernel_rfl) ?_
              refine opd rfl rfl (m_alloc (c := ws 0) (T := 36) hm1230 7 rfl (al_X rfl) (fun g1231 w1232 hm1233 => ?_))
              refine ⟨⟨hm1233.at 0 rfl, hm1233.at 1 rfl, hm1233.at 2 rfl⟩, ?_⟩
              simp only [e1, e2, e3]
              refine one_ready 9 (by kernel_rfl) ?_
              refine opd rfl rfl (m_store 6 36 _ _ (ws a) (old := ws 0) hm1233 rfl rfl rfl rfl rfl (by rw [ws_sz]; exact info_x) ((ws_sz _).trans (ws_sz _).symm) (ws_one _) (fun w1234 hm1235 => ?_))
              refine ⟨⟨hm1235.at 0 rfl, hm1235.at 1 rfl, hm1235.at 2 rfl⟩, ?_⟩
              refine one_ready 10 (by kernel_rfl) ?_
              refine opd rfl rfl (m_store 4 36 _ _ (ws b) (old := ws 0) hm1235 rfl rfl rfl rfl rfl (by rw [ws_sz]; exact info_x) ((ws_sz _).trans (ws_sz _).symm) (ws_one _) (fun w1236 hm1237 => ?_))
              refine ⟨⟨hm1237.at 0 rfl, hm1237.at 1 rfl, hm1237.at 2 rfl⟩, ?_⟩
              refine one_ready 11 (by kernel_rfl) ?_
              refine opd rfl rfl (m_store 5 36 _ _ (ws c) (old := ws 0) hm1237 rfl rfl rfl rfl rfl (by rw [ws_sz]; exact info_x) ((ws_sz _).trans (ws_sz _).symm) (ws_one _) (fun w1238 hm1239 => ?_))
              refine ⟨⟨hm1239.at 0 rfl, hm1239.at 1 rfl, hm1239.at 2 rfl⟩, ?_⟩
              refine wpAnyH_done (by kernel_rfl) ?_ _
              exact ⟨rfl, g1231, g1101, g1224, rfl, (Mm.reorder hm1239 [0, 1, 2, 3, 6, 4, 5] (by decide) rfl)⟩
            · refine opd rfl rfl (m_alloc (c := ws 0) (T := 36) hm1228 7 rfl (al_X rfl) (fun g1240 w1241 hm1242 => ?_))
              refine ⟨⟨hm1242.at 0 rfl, hm1242.at 1 rfl, hm1242.at 2 rfl⟩, ?_⟩
              simp only [e1, e2, e3]
              refine one_ready 5 (by kernel_rfl) ?_
              refine opd rfl rfl (m_call hm1242 29 (.agg (ws c)) rfl (run_rwords rfl rfl) (rwords_any c _) (fun w1243 hm1244 => ?_))
              refine ⟨⟨hm1244.at 0 rfl, hm1244.at 1 rfl, hm1244.at 2 rfl⟩, ?_⟩
              simp only [e1, e2, e3]
              refine one_ready 9 (by kernel_rfl) ?_
              refine opd rfl rfl (m_store 6 36 _ _ (ws a) (old := ws 0) hm1244 rfl rfl rfl rfl rfl (by rw [ws_sz]; exact info_x) ((ws_sz _).trans (ws_sz _).symm) (ws_one _) (fun w1245 hm1246 => ?_))
              refine ⟨⟨hm1246.at 0 rfl, hm1246.at 1 rfl, hm1246.at 2 rfl⟩, ?_⟩
              refine one_ready 10 (by kernel_rfl) ?_
              refine opd rfl rfl (m_store 4 36 _ _ (ws b) (old := ws 0) hm1246 rfl rfl rfl rfl rfl (by rw [ws_sz]; exact info_x) ((ws_sz _).trans (ws_sz _).symm) (ws_one _) (fun w1247 hm1248 => ?_))
              refine ⟨⟨hm1248.at 0 rfl, hm1248.at 1 rfl, hm1248.at 2 rfl⟩, ?_⟩
              refine one_ready 11 (by kernel_rfl) ?_
              refine opd rfl rfl (m_store 5 36 _ _ (ws c) (old := ws 0) hm1248 rfl rfl rfl rfl rfl (by rw [ws_sz]; exact info_x) ((ws_sz _).trans (ws_sz _).symm) (ws_one _) (fun w1249 hm1250 => ?_))
              refine ⟨⟨hm1250.at 0 rfl, hm1250.at 1 rfl, hm1250.at 2 rfl⟩, ?_⟩
              refine wpAnyH_done (by kernel_rfl) ?_ _
              exact ⟨rfl, g1240, g1101, g1224, rfl, (Mm.reorder hm1250 [0, 1, 2, 3, 6, 4, 5] (by decide) rfl)⟩
          · refine opd rfl rfl (m_alloc (c := ws 0) (T := 36) hm1226 7 rfl (al_X rfl) (fun g1251 w1252 hm1253 => ?_))
            refine ⟨⟨hm1253.at 0 rfl, hm1253.at 1 rfl, hm1253.at 2 rfl⟩, ?_⟩
            simp only [e1, e2, e3]
            refine one_ready 3 (by kernel_rfl) ?_
            refine opd rfl rfl (m_call hm1253 27 (.agg (ws b)) rfl (run_rwords rfl rfl) (rwords_any b _) (fun w1254 hm1255 => ?_))
            refine ⟨⟨hm1255.at 0 rfl, hm1255.at 1 rfl, hm1255.at 2 rfl⟩, ?_⟩
            simp only [e1, e2, e3]
            refine one_ready 5 (by kernel_rfl) ?_
            refine opd rfl rfl (m_call hm1255 29 (.agg (ws c)) rfl (run_rwords rfl rfl) (rwords_any c _) (fun w1256 hm1257 => ?_))
            refine ⟨⟨hm1257.at 0 rfl, hm1257.at 1 rfl, hm1257.at 2 rfl⟩, ?_⟩
            simp only [e1, e2, e3]
            refine one_ready 9 (by kernel_rfl) ?_
            refine opd rfl rfl (m_store 6 36 _ _ (ws a) (old := ws 0) hm1257 rfl rfl rfl rfl rfl (by rw [ws_sz]; exact info_x) ((ws_sz _).trans (ws_sz _).symm) (ws_one _) (fun w1258 hm1259 => ?_))
            refine ⟨⟨hm1259.at 0 rfl, hm1259.at 1 rfl, hm1259.at 2 rfl⟩, ?_⟩
            refine one_ready 10 (by kernel_rfl) ?_
            refine opd rfl rfl (m_store 4 36 _ _ (ws b) (old := ws 0) hm1259 rfl rfl rfl rfl rfl (by rw [ws_sz]; exact info_x) ((ws_sz _).trans (ws_sz _).symm) (ws_one _) (fun w1260 hm1261 => ?_))
            refine ⟨⟨hm1261.at 0 rfl, hm1261.at 1 rfl, hm1261.at 2 rfl⟩, ?_⟩
            refine one_ready 11 (by kernel_rfl) ?_
            refine opd rfl rfl (m_store 5 36 _ _ (ws c) (old := ws 0) hm1261 rfl rfl rfl rfl rfl (by rw [ws_sz]; exact info_x) ((ws_sz _).trans (ws_sz _).symm) (ws_one _) (fun w1262 hm1263 => ?_))
            refine ⟨⟨hm1263.at 0 rfl, hm1263.at 1 rfl, hm1263.at 2 rfl⟩, ?_⟩
            refine wpAnyH_done (by kernel_rfl) ?_ _
            exact ⟨rfl, g1251, g1101, g1224, rfl, (Mm.reorder hm1263 [0, 1, 2, 3, 6, 4, 5] (by decide) rfl)⟩
      · refine opd rfl rfl (m_alloc (c := ws 0) (T := 36) hm1103 7 rfl (al_X rfl) (fun g1264 w1265 hm1266 => ?_))
        refine ⟨⟨hm1266.at 0 rfl, hm1266.at 1 rfl, hm1266.at 2 rfl⟩, ?_⟩
        simp only [e1, e2, e3]
        refine two_ready 1 8 (by kernel_rfl) ?_ ?_
        · refine opd rfl rfl (m_call hm1266 25 (.agg (ws a)) rfl (run_rwords rfl rfl) (rwords_any a _) (fun w1267 hm1268 => ?_))
          refine ⟨⟨hm1268.at 0 rfl, hm1268.at 1 rfl, hm1268.at 2 rfl⟩, ?_⟩
          simp only [e1, e2, e3]
          refine two_ready 3 8 (by kernel_rfl) ?_ ?_
          · refine opd rfl rfl (m_call hm1268 27 (.agg (ws b)) rfl (run_rwords rfl rfl) (rwords_any b _) (fun w1269 hm1270 => ?_))
            refine ⟨⟨hm1270.at 0 rfl, hm1270.at 1 rfl, hm1270.at 2 rfl⟩, ?_⟩
            simp only [e1, e2, e3]
            refine two_ready 5 8 (by kernel_rfl) ?_ ?_
            · refine opd rfl rfl (m_call hm1270 29 (.agg (ws c)) rfl (run_rwords rfl rfl) (rwords_any c _) (fun w1271 hm1272 => ?_))
              refine ⟨⟨hm1272.at 0 rfl, hm1272.at 1 rfl, hm1272.at 2 rfl⟩, ?_⟩
              simp only [e1, e2, e3]
              refine one_ready 8 (by kernel_rfl) ?_
              refine opd rfl rfl (m_alloc (c := ws 0) (T := 36) hm1272 9 rfl (al_X rfl) (fun g1273 w1274 hm1275 => ?_))
              refine ⟨⟨hm1275.at 0 rfl, hm1275.at 1 rfl, hm1275.at 2 rfl⟩, ?_⟩
              simp only [e1, e2, e3]
              refine one_ready 9 (by kernel_rfl) ?_
              refine opd rfl rfl (m_store 5 36 _ _ (ws a) (old := ws 0) hm1275 rfl rfl rfl rfl rfl (by rw [ws_sz]; exact info_x) ((ws_sz _).trans (ws_sz _).symm) (ws_one _) (fun w1276 hm1277 => ?_))
              refine ⟨⟨hm1277.at 0 rfl, hm1277.at 1 rfl, hm1277.at 2 rfl⟩, ?_⟩
              refine one_ready 10 (by kernel_rfl) ?_
              refine opd rfl rfl (m_store 4 36 _ _ (ws b) (old := ws 0) hm1277 rfl rfl rfl rfl rfl (by rw [ws_sz]; exact info_x) ((ws_sz _).trans (ws_sz _).symm) (ws_one _) (fun w1278 hm1279 => ?_))
              refine ⟨⟨hm1279.at 0 rfl, hm1279.at 1 rfl, hm1279.at 2 rfl⟩, ?_⟩
              refine one_ready 11 (by kernel_rfl) ?_
              refine opd rfl rfl (m_store 6 36 _ _ (ws c) (old := ws 0) hm1279 rfl rfl rfl rfl rfl (by rw [ws_sz]; exact info_x) ((ws_sz _).trans (ws_sz _).symm) (ws_one _) (fun w1280 hm1281 => ?_))
              refine ⟨⟨hm1281.at 0 rfl, hm1281.at 1 rfl, hm1281.at 2 rfl⟩, ?_⟩
              refine wpAnyH_done (by kernel_rfl) ?_ _
              exact ⟨rfl, g1264, g1101, g1273, rfl, (Mm.reorder hm1281 [0, 1, 2, 3, 5, 4, 6] (by decide) rfl)⟩
            · refine opd rfl rfl (m_alloc (c := ws 0) (T := 36) hm1270 9 rfl (al_X rfl) (fun g1282 w1283 hm1284 => ?_))
              refine ⟨⟨hm1284.at 0 rfl, hm1284.at 1 rfl, hm1284.at 2 rfl⟩, ?_⟩
              simp only [e1, e2, e3]
              refine one_ready 5 (by kernel_rfl) ?_
              refine opd rfl rfl (m_call hm1284 29 (.agg (ws c)) rfl (run_rwords rfl rfl) (rwords_any c _) (fun w1285 hm1286 => ?_))
              refine ⟨⟨hm1286.at 0 rfl, hm1286.at 1 rfl, hm1286.at 2 rfl⟩, ?_⟩
              simp only [e1, e2, e3]
              refine one_ready 9 (by kernel_rfl) ?_
              refine opd rfl rfl (m_store 5 36 _ _ (ws a) (old := ws 0) hm1286 rfl rfl rfl rfl rfl (by rw [ws_sz]; exact info_x) ((ws_sz _).trans (ws_sz _).symm) (ws_one _) (fun w1287 hm1288 => ?_))
              refine ⟨⟨hm1288.at 0 rfl, hm1288.at 1 rfl, hm1288.at 2 rfl⟩, ?_⟩
              refine one_ready 10 (by kernel_rfl) ?_
              refine opd rfl rfl (m_store 4 36 _ _ (ws b) (old := ws 0) hm1288 rfl rfl rfl rfl rfl (by rw [ws_sz]; exact info_x) ((ws_sz _).trans (ws_sz _).symm) (ws_one _) (fun w1289 hm1290 => ?_))
              refine ⟨⟨hm1290.at 0 rfl, hm1290.at 1 rfl, hm1290.at 2 rfl⟩, ?_⟩
              refine one_ready 11 (by kernel_rfl) ?_
              refine opd rfl rfl (m_store 6 36 _ _ (ws c) (old := ws 0) hm1290 rfl rfl rfl rfl rfl (by rw [ws_sz]; exact info_x) ((ws_sz _).trans (ws_sz _).symm) (ws_one _) (fun w1291 hm1292 => ?_))
              refine ⟨⟨hm1292.at 0 rfl, hm1292.at 1 rfl, hm1292.at 2 rfl⟩, ?_⟩
              refine wpAnyH_done (by kernel_rfl) ?_ _
              exact ⟨rfl, g1264, g1101, g1282, rfl, (Mm.reorder hm1292 [0, 1, 2, 3, 5, 4, 6] (by decide) rfl)⟩
          · refine opd rfl rfl (m_alloc (c := ws 0) (T := 36) hm1268 9 rfl (al_X rfl) (fun g1293 w1294 hm1295 => ?_))
            refine ⟨⟨hm1295.at 0 rfl, hm1295.at 1 rfl, hm1295.at 2 rfl⟩, ?_⟩
            simp only [e1, e2, e3]
            refine one_ready 3 (by kernel_rfl) ?_
            refine opd rfl rfl (m_call hm1295 27 (.agg (ws b)) rfl (run_rwords rfl rfl) (rwords_any b _) (fun w1296 hm1297 => ?_))
            refine ⟨⟨hm1297.at 0 rfl, hm1297.at 1 rfl, hm1297.at 2 rfl⟩, ?_⟩
            simp only [e1, e2, e3]
            refine one_ready 5 (by kernel_rfl) ?_
            refine opd rfl rfl (m_call hm1297 29 (.agg (ws c)) rfl (run_rwords rfl rfl) (rwords_any c _) (fun w1298 hm1299 => ?_))
            refine ⟨⟨hm1299.at 0 rfl, hm1299.at 1 rfl, hm1299.at 2 rfl⟩, ?_⟩
            simp only [e1, e2, e3]
            refine one_ready 9 (by kernel_rfl) ?_
            refine opd rfl rfl (m_store 5 36 _ _ (ws a) (old := ws 0) hm1299 rfl rfl rfl rfl rfl (by rw [ws_sz]; exact info_x) ((ws_sz _).trans (ws_sz _).symm) (ws_one _) (fun w1300 hm1301 => ?_))
            refine ⟨⟨hm1301.at 0 rfl, hm1301.at 1 rfl, hm1301.at 2 rfl⟩, ?_⟩
            refine one_ready 10 (by kernel_rfl) ?_
            refine opd rfl rfl (m_store 4 36 _ _ (ws b) (old := ws 0) hm1301 rfl rfl rfl rfl rfl (by rw [ws_sz]; exact info_x) ((ws_sz _).trans (ws_sz _).symm) (ws_one _) (fun w1302 hm1303 => ?_))
            refine ⟨⟨hm1303.at 0 rfl, hm1303.at 1 rfl, hm1303.at 2 rfl⟩, ?_⟩
            refine one_ready 11 (by kernel_rfl) ?_
            refine opd rfl rfl (m_store 6 36 _ _ (ws c) (old := ws 0) hm1303 rfl rfl rfl rfl rfl (by rw [ws_sz]; exact info_x) ((ws_sz _).trans (ws_sz _).symm) (ws_one _) (fun w1304 hm1305 => ?_))
            refine ⟨⟨hm1305.at 0 rfl, hm1305.at 1 rfl, hm1305.at 2 rfl⟩, ?_⟩
            refine wpAnyH_done (by kernel_rfl) ?_ _
            exact ⟨rfl, g1264, g1101, g1293, rfl, (Mm.reorder hm1305 [0, 1, 2, 3, 5, 4, 6] (by decide) rfl)⟩
        · refine opd rfl rfl (m_alloc (c := ws 0) (T := 36) hm1266 9 rfl (al_X rfl) (fun g1306 w1307 hm1308 => ?_))
          refine ⟨⟨hm1308.at 0 rfl, hm1308.at 1 rfl, hm1308.at 2 rfl⟩, ?_⟩
          simp only [e1, e2, e3]
          refine one_ready 1 (by kernel_rfl) ?_
          refine opd rfl rfl (m_call hm1308 25 (.agg (ws a)) rfl (run_rwords rfl rfl) (rwords_any a _) (fun w1309 hm1310 => ?_))
          refine ⟨⟨hm1310.at 0 rfl, hm1310.at 1 rfl, hm1310.at 2 rfl⟩, ?_⟩
          simp only [e1, e2, e3]
          refine one_ready 3 (by kernel_rfl) ?_
          refine opd rfl rfl (m_call hm1310 27 (.agg (ws b)) rfl (run_rwords rfl rfl) (rwords_any b _) (fun w1311 hm1312 => ?_))
          refine ⟨⟨hm1312.at 0 rfl, hm1312.at 1 rfl, hm1312.at 2 rfl⟩, ?_⟩
          simp only [e1, e2, e3]
          refine one_ready 5 (by kernel_rfl) ?_
          refine opd rfl rfl (m_call hm1312 29 (.agg (ws c)) rfl (run_rwords rfl rfl) (rwords_any c _) (fun w1313 hm1314 => ?_))
          refine ⟨⟨hm1314.at 0 rfl, hm1314.at 1 rfl, hm1314.at 2 rfl⟩, ?_⟩
          simp only [e1, e2, e3]
          refine one_ready 9 (by kernel_rfl) ?_
          refine opd rfl rfl (m_store 5 36 _ _ (ws a) (old := ws 0) hm1314 rfl rfl rfl rfl rfl (by rw [ws_sz]; exact info_x) ((ws_sz _).trans (ws_sz _).symm) (ws_one _) (fun w1315 hm1316 => ?_))
          refine ⟨⟨hm1316.at 0 rfl, hm1316.at 1 rfl, hm1316.at 2 rfl⟩, ?_⟩
          refine one_ready 10 (by kernel_rfl) ?_
          refine opd rfl rfl (m_store 4 36 _ _ (ws b) (old := ws 0) hm1316 rfl rfl rfl rfl rfl (by rw [ws_sz]; exact info_x) ((ws_sz _).trans (ws_sz _).symm) (ws_one _) (fun w1317 hm1318 => ?_))
          refine ⟨⟨hm1318.at 0 rfl, hm1318.at 1 rfl, hm1318.at 2 rfl⟩, ?_⟩
          refine one_ready 11 (by kernel_rfl) ?_
          refine opd rfl rfl (m_store 6 36 _ _ (ws c) (old := ws 0) hm1318 rfl rfl rfl rfl rfl (by rw [ws_sz]; exact info_x) ((ws_sz _).trans (ws_sz _).symm) (ws_one _) (fun w1319 hm1320 => ?_))
          refine ⟨⟨hm1320.at 0 rfl, hm1320.at 1 rfl, hm1320.at 2 rfl⟩, ?_⟩
          refine wpAnyH_done (by kernel_rfl) ?_ _
          exact ⟨rfl, g1264, g1101, g1306, rfl, (Mm.reorder hm1320 [0, 1, 2, 3, 5, 4, 6] (by decide) rfl)⟩
      · refine opd rfl rfl (m_alloc (c := ws 0) (T := 36) hm1103 9 rfl (al_X rfl) (fun g1321 w1322 hm1323 => ?_))
        refine ⟨⟨hm1323.at 0 rfl, hm1323.at 1 rfl, hm1323.at 2 rfl⟩, ?_⟩
        simp only [e1, e2, e3]
        refine two_ready 1 6 (by kernel_rfl) ?_ ?_
        · refine opd rfl rfl (m_call hm1323 25 (.agg (ws a)) rfl (run_rwords rfl rfl) (rwords_any a _) (fun w1324 hm1325 => ?_))
          refine ⟨⟨hm1325.at 0 rfl, hm1325.at 1 rfl, hm1325.at 2 rfl⟩, ?_⟩
          simp only [e1, e2, e3]
          refine two_ready 3 6 (by kernel_rfl) ?_ ?_
          · refine opd rfl rfl (m_call hm1325 27 (.agg (ws b)) rfl (run_rwords rfl rfl) (rwords_any b _) (fun w1326 hm1327 => ?_))
            refine ⟨⟨hm1327.at 0 rfl, hm1327.at 1 rfl, hm1327.at 2 rfl⟩, ?_⟩
            simp only [e1, e2, e3]
            refine two_ready 5 6 (by kernel_rfl) ?_ ?_
            · refine opd rfl rfl (m_call hm1327 29 (.agg (ws c)) rfl (run_rwords rfl rfl) (rwords_any c _) (fun w1328 hm1329 => ?_))
              refine ⟨⟨hm1329.at 0 rfl, hm1329.at 1 rfl, hm1329.at 2 rfl⟩, ?_⟩
              simp only [e1, e2, e3]
              refine one_ready 6 (by kernel_rfl) ?_
              refine opd rfl rfl (m_alloc (c := ws 0) (T := 36) hm1329 7 rfl (al_X rfl) (fun g1330 w1331 hm1332 => ?_))
              refine ⟨⟨hm1332.at 0 rfl, hm1332.at 1 rfl, hm1332.at 2 rfl⟩, ?_⟩
              simp only [e1, e2, e3]
              refine one_ready 9 (by kernel_rfl) ?_
              refine opd rfl rfl (m_store 6 36 _ _ (ws a) (old := ws 0) hm1332 rfl rfl rfl rfl rfl (by rw [ws_sz]; exact info_x) ((ws_sz _).trans (ws_sz _).symm) (ws_one _) (fun w1333 hm1334 => ?_))
              refine ⟨⟨hm1334.at 0 rfl, hm1334.at 1 rfl, hm1334.at 2 rfl⟩, ?_⟩
              refine one_ready 10 (by kernel_rfl) ?_
              refine opd rfl rfl (m_store 4 36 _ _ (ws b) (old := ws 0) hm1334 rfl rfl rfl rfl rfl (by rw [ws_sz]; exact info_x) ((ws_sz _).trans (ws_sz _).symm) (ws_one _) (fun w1335 hm1336 => ?_))
              refine ⟨⟨hm1336.at 0 rfl, hm1336.at 1 rfl, hm1336.at 2 rfl⟩, ?_⟩
              refine one_ready 11 (by kernel_rfl) ?_
              refine opd rfl rfl (m_store 5 36 _ _ (ws c) (old := ws 0) hm1336 rfl rfl rfl rfl rfl (by rw [ws_sz]; exact info_x) ((ws_sz _).trans (ws_sz _).symm) (ws_one _) (fun w1337 hm1338 => ?_))
              refine ⟨⟨hm1338.at 0 rfl, hm1338.at 1 rfl, hm1338.at 2 rfl⟩, ?_⟩
              refine wpAnyH_done (by kernel_rfl) ?_ _
              exact ⟨rfl, g1330, g1101, g1321, rfl, (Mm.reorder hm1338 [0, 1, 2, 3, 6, 4, 5] (by decide) rfl)⟩
            · refine opd rfl rfl (m_alloc (c := ws 0) (T := 36) hm1327 7 rfl (al_X rfl) (fun g1339 w1340 hm1341 => ?_))
              refine ⟨⟨hm1341.at 0 rfl, hm1341.at 1 rfl, hm1341.at 2 rfl⟩, ?_⟩
              simp only [e1, e2, e3]
              refine one_ready 5 (by kernel_rfl) ?_
              refine opd rfl rfl (m_call hm1341 29 (.agg (ws c)) rfl (run_rwords rfl rfl) (rwords_any c _) (fun w1342 hm1343 => ?_))
              refine ⟨⟨hm1343.at 0 rfl, hm1343.at 1 rfl, hm1343.at 2 rfl⟩, ?_⟩
              simp only [e1, e2, e3]
              refine one_ready 9 (by kernel_rfl) ?_
              refine opd rfl rfl (m_store 6 36 _ _ (ws a) (old := ws 0) hm1343 rfl rfl rfl rfl rfl (by rw [ws_sz]; exact info_x) ((ws_sz _).trans (ws_sz _).symm) (ws_one _) (fun w1344 hm1345 => ?_))
              refine ⟨⟨hm1345.at 0 rfl, hm1345.at 1 rfl, hm1345.at 2 rfl⟩, ?_⟩
              refine one_ready 10 (by kernel_rfl) ?_
              refine opd rfl rfl (m_store 4 36 _ _ (ws b) (old := ws 0) hm1345 rfl rfl rfl rfl rfl (by rw [ws_sz]; exact info_x) ((ws_sz _).trans (ws_sz _).symm) (ws_one _) (fun w1346 hm1347 => ?_))
              refine ⟨⟨hm1347.at 0 rfl, hm1347.at 1 rfl, hm1347.at 2 rfl⟩, ?_⟩
              refine one_ready 11 (by kernel_rfl) ?_
              refine opd rfl rfl (m_store 5 36 _ _ (ws c) (old := ws 0) hm1347 rfl rfl rfl rfl rfl (by rw [ws_sz]; exact info_x) ((ws_sz _).trans (ws_sz _).symm) (ws_one _) (fun w1348 hm1349 => ?_))
              refine ⟨⟨hm1349.at 0 rfl, hm1349.at 1 rfl, hm1349.at 2 rfl⟩, ?_⟩
              refine wpAnyH_done (by kernel_rfl) ?_ _
              exact ⟨rfl, g1339, g1101, g1321, rfl, (Mm.reorder hm1349 [0, 1, 2, 3, 6, 4, 5] (by decide) rfl)⟩
          · refine opd rfl rfl (m_alloc (c := ws 0) (T := 36) hm1325 7 rfl (al_X rfl) (fun g1350 w1351 hm1352 => ?_))
            refine ⟨⟨hm1352.at 0 rfl, hm1352.at 1 rfl, hm1352.at 2 rfl⟩, ?_⟩
            simp only [e1, e2, e3]
            refine one_ready 3 (by kernel_rfl) ?_
            refine opd rfl rfl (m_call hm1352 27 (.agg (ws b)) rfl (run_rwords rfl rfl) (rwords_any b _) (fun w1353 hm1354 => ?_))
            refine ⟨⟨hm1354.at 0 rfl, hm1354.at 1 rfl, hm1354.at 2 rfl⟩, ?_⟩
            simp only [e1, e2, e3]
            refine one_ready 5 (by kernel_rfl) ?_
            refine opd rfl rfl (m_call hm1354 29 (.agg (ws c)) rfl (run_rwords rfl rfl) (rwords_any c _) (fun w1355 hm1356 => ?_))
            refine ⟨⟨hm1356.at 0 rfl, hm1356.at 1 rfl, hm1356.at 2 rfl⟩, ?_⟩
            simp only [e1, e2, e3]
            refine one_ready 9 (by kernel_rfl) ?_
            refine opd rfl rfl (m_store 6 36 _ _ (ws a) (old := ws 0) hm1356 rfl rfl rfl rfl rfl (by rw [ws_sz]; exact info_x) ((ws_sz _).trans (ws_sz _).symm) (ws_one _) (fun w1357 hm1358 => ?_))
            refine ⟨⟨hm1358.at 0 rfl, hm1358.at 1 rfl, hm1358.at 2 rfl⟩, ?_⟩
            refine one_ready 10 (by kernel_rfl) ?_
            refine opd rfl rfl (m_store 4 36 _ _ (ws b) (old := ws 0) hm1358 rfl rfl rfl rfl rfl (by rw [ws_sz]; exact info_x) ((ws_sz _).trans (ws_sz _).symm) (ws_one _) (fun w1359 hm1360 => ?_))
            refine ⟨⟨hm1360.at 0 rfl, hm1360.at 1 rfl, hm1360.at 2 rfl⟩, ?_⟩
            refine one_ready 11 (by kernel_rfl) ?_
            refine opd rfl rfl (m_store 5 36 _ _ (ws c) (old := ws 0) hm1360 rfl rfl rfl rfl rfl (by rw [ws_sz]; exact info_x) ((ws_sz _).trans (ws_sz _).symm) (ws_one _) (fun w1361 hm1362 => ?_))
            refine ⟨⟨hm1362.at 0 rfl, hm1362.at 1 rfl, hm1362.at 2 rfl⟩, ?_⟩
            refine wpAnyH_done (by kernel_rfl) ?_ _
            exact ⟨rfl, g1350, g1101, g1321, rfl, (Mm.reorder hm1362 [0, 1, 2, 3, 6, 4, 5] (by decide) rfl)⟩
        · refine opd rfl rfl (m_alloc (c := ws 0) (T := 36) hm1323 7 rfl (al_X rfl) (fun g1363 w1364 hm1365 => ?_))
          refine ⟨⟨hm1365.at 0 rfl, hm1365.at 1 rfl, hm1365.at 2 rfl⟩, ?_⟩
          simp only [e1, e2, e3]
          refine one_ready 1 (by kernel_rfl) ?_
          refine opd rfl rfl (m_call hm1365 25 (.agg (ws a)) rfl (run_rwords rfl rfl) (rwords_any a _) (fun w1366 hm1367 => ?_))
          refine ⟨⟨hm1367.at 0 rfl, hm1367.at 1 rfl, hm1367.at 2 rfl⟩, ?_⟩
          simp only [e1, e2, e3]
          refine one_ready 3 (by kernel_rfl) ?_
          refine opd rfl rfl (m_call hm1367 27 (.agg (ws b)) rfl (run_rwords rfl rfl) (rwords_any b _) (fun w1368 hm1369 => ?_))
          refine ⟨⟨hm1369.at 0 rfl, hm1369.at 1 rfl, hm1369.at 2 rfl⟩, ?_⟩
          simp only [e1, e2, e3]
          refine one_ready 5 (by kernel_rfl) ?_
          refine opd rfl rfl (m_call hm1369 29 (.agg (ws c)) rfl (run_rwords rfl rfl) (rwords_any c _) (fun w1370 hm1371 => ?_))
          refine ⟨⟨hm1371.at 0 rfl, hm1371.at 1 rfl, hm1371.at 2 rfl⟩, ?_⟩
          simp only [e1, e2, e3]
          refine one_ready 9 (by kernel_rfl) ?_
          refine opd rfl rfl (m_store 6 36 _ _ (ws a) (old := ws 0) hm1371 rfl rfl rfl rfl rfl (by rw [ws_sz]; exact info_x) ((ws_sz _).trans (ws_sz _).symm) (ws_one _) (fun w1372 hm1373 => ?_))
          refine ⟨⟨hm1373.at 0 rfl, hm1373.at 1 rfl, hm1373.at 2 rfl⟩, ?_⟩
          refine one_ready 10 (by kernel_rfl) ?_
          refine opd rfl rfl (m_store 4 36 _ _ (ws b) (old := ws 0) hm1373 rfl rfl rfl rfl rfl (by rw [ws_sz]; exact info_x) ((ws_sz _).trans (ws_sz _).symm) (ws_one _) (fun w1374 hm1375 => ?_))
          refine ⟨⟨hm1375.at 0 rfl, hm1375.at 1 rfl, hm1375.at 2 rfl⟩, ?_⟩
          refine one_ready 11 (by kernel_rfl) ?_
          refine opd rfl rfl (m_store 5 36 _ _ (ws c) (old := ws 0) hm1375 rfl rfl rfl rfl rfl (by rw [ws_sz]; exact info_x) ((ws_sz _).trans (ws_sz _).symm) (ws_one _) (fun w1376 hm1377 => ?_))
          refine ⟨⟨hm1377.at 0 rfl, hm1377.at 1 rfl, hm1377.at 2 rfl⟩, ?_⟩
          refine wpAnyH_done (by kernel_rfl) ?_ _
          exact ⟨rfl, g1363, g1101, g1321, rfl, (Mm.reorder hm1377 [0, 1, 2, 3, 6, 4, 5] (by decide) rfl)⟩
    · refine opd rfl rfl (m_alloc (c := ws 0) (T := 36) hm15 9 rfl (al_X rfl) (fun g1378 w1379 hm1380 => ?_))
      refine ⟨⟨hm1380.at 0 rfl, hm1380.at 1 rfl, hm1380.at 2 rfl⟩, ?_⟩
      simp only [e1, e2, e3]
      refine three_ready 1 6 7 (by kernel_rfl) ?_ ?_ ?_
      · refine opd rfl rfl (m_call hm1380 25 (.agg (ws a)) rfl (run_rwords rfl rfl) (rwords_any a _) (fun w1381 hm1382 => ?_))
        refine ⟨⟨hm1382.at 0 rfl, hm1382.at 1 rfl, hm1382.at 2 rfl⟩, ?_⟩
        simp only [e1, e2, e3]
        refine three_ready 3 6 7 (by kernel_rfl) ?_ ?_ ?_
        · refine opd rfl rfl (m_call hm1382 27 (.agg (ws b)) rfl (run_rwords rfl rfl) (rwords_any b _) (fun w1383 hm1384 => ?_))
          refine ⟨⟨hm1384.at 0 rfl, hm1384.at 1 rfl, hm1384.at 2 rfl⟩, ?_⟩
          simp only [e1, e2, e3]
          refine three_ready 5 6 7 (by kernel_rfl) ?_ ?_ ?_
          · refine opd rfl rfl (m_call hm1384 29 (.agg (ws c)) rfl (run_rwords rfl rfl) (rwords_any c _) (fun w1385 hm1386 => ?_))
            refine ⟨⟨hm1386.at 0 rfl, hm1386.at 1 rfl, hm1386.at 2 rfl⟩, ?_⟩
            simp only [e1, e2, e3]
            refine two_ready 6 7 (by kernel_rfl) ?_ ?_
            · refine opd rfl rfl (m_alloc (c := ws 0) (T := 36) hm1386 7 rfl (al_X rfl) (fun g1387 w1388 hm1389 => ?_))
              refine ⟨⟨hm1389.at 0 rfl, hm1389.at 1 rfl, hm1389.at 2 rfl⟩, ?_⟩
              simp only [e1, e2, e3]
              refine one_ready 7 (by kernel_rfl) ?_
              refine opd rfl rfl (m_alloc (c := ws 0) (T := 36) hm1389 8 rfl (al_X rfl) (fun g1390 w1391 hm1392 => ?_))
              refine ⟨⟨hm1392.at 0 rfl, hm1392.at 1 rfl, hm1392.at 2 rfl⟩, ?_⟩
              simp only [e1, e2, e3]
              refine one_ready 9 (by kernel_rfl) ?_
              refine opd rfl rfl (m_store 5 36 _ _ (ws a) (old := ws 0) hm1392 rfl rfl rfl rfl rfl (by rw [ws_sz]; exact info_x) ((ws_sz _).trans (ws_sz _).symm) (ws_one _) (fun w1393 hm1394 => ?_))
              refine ⟨⟨hm1394.at 0 rfl, hm1394.at 1 rfl, hm1394.at 2 rfl⟩, ?_⟩
              refine one_ready 10 (by kernel_rfl) ?_
              refine opd rfl rfl (m_store 6 36 _ _ (ws b) (old := ws 0) hm1394 rfl rfl rfl rfl rfl (by rw [ws_sz]; exact info_x) ((ws_sz _).trans (ws_sz _).symm) (ws_one _) (fun w1395 hm1396 => ?_))
              refine ⟨⟨hm1396.at 0 rfl, hm1396.at 1 rfl, hm1396.at 2 rfl⟩, ?_⟩
              refine one_ready 11 (by kernel_rfl) ?_
              refine opd rfl rfl (m_store 4 36 _ _ (ws c) (old := ws 0) hm1396 rfl rfl rfl rfl rfl (by rw [ws_sz]; exact info_x) ((ws_sz _).trans (ws_sz _).symm) (ws_one _) (fun w1397 hm1398 => ?_))
              refine ⟨⟨hm1398.at 0 rfl, hm1398.at 1 rfl, hm1398.at 2 rfl⟩, ?_⟩
              refine wpAnyH_done (by kernel_rfl) ?_ _
              exact ⟨rfl, g1387, g1390, g1378, rfl, (Mm.reorder hm1398 [0, 1, 2, 3, 5, 6, 4] (by decide) rfl)⟩
            · refine opd rfl rfl (m_alloc (c := ws 0) (T := 36) hm1386 8 rfl (al_X rfl) (fun g1399 w1400 hm1401 => ?_))
              refine ⟨⟨hm1401.at 0 rfl, hm1401.at 1 rfl, hm1401.at 2 rfl⟩, ?_⟩
              simp only [e1, e2, e3]
              refine one_ready 6 (by kernel_rfl) ?_
              refine opd rfl rfl (m_alloc (c := ws 0) (T := 36) hm1401 7 rfl (al_X rfl) (fun g1402 w1403 hm1404 => ?_))
              refine ⟨⟨hm1404.at 0 rfl, hm1404.at 1 rfl, hm1404.at 2 rfl⟩, ?_⟩
              simp only [e1, e2, e3]
              refine one_ready 9 (by kernel_rfl) ?_
              refine opd rfl rfl (m_store 6 36 _ _ (ws a) (old := ws 0) hm1404 rfl rfl rfl rfl rfl (by rw [ws_sz]; exact info_x) ((ws_sz _).trans (ws_sz _).symm) (ws_one _) (fun w1405 hm1406 => ?_))
              refine ⟨⟨hm1406.at 0 rfl, hm1406.at 1 rfl, hm1406.at 2 rfl⟩, ?_⟩
              refine one_ready 10 (by kernel_rfl) ?_
              refine opd rfl rfl (m_store 5 36 _ _ (ws b) (old := ws 0) hm1406 rfl rfl rfl rfl rfl (by rw [ws_sz]; exact info_x) ((ws_sz _).trans (ws_sz _).symm) (ws_one _) (fun w1407 hm1408 => ?_))
              refine ⟨⟨hm1408.at 0 rfl, hm1408.at 1 rfl, hm1408.at 2 rfl⟩, ?_⟩
              refine one_ready 11 (by kernel_rfl) ?_
              refine opd rfl rfl (m_store 4 36 _ _ (ws c) (old := ws 0) hm1408 rfl rfl rfl rfl rfl (by rw [ws_sz]; exact info_x) ((ws_sz _).trans (ws_sz _).symm) (ws_one _) (fun w1409 hm1410 => ?_))
              refine ⟨⟨hm1410.at 0 rfl, hm1410.at 1 rfl, hm1410.at 2 rfl⟩, ?_⟩
              refine wpAnyH_done (by kernel_rfl) ?_ _
              exact ⟨rfl, g1402, g1399, g1378, rfl, (Mm.reorder hm1410 [0, 1, 2, 3, 6, 5, 4] (by decide) rfl)⟩
          · refine opd rfl rfl (m_alloc (c := ws 0) (T := 36) hm1384 7 rfl (al_X rfl) (fun g1411 w1412 hm1413 => ?_))
            refine ⟨⟨hm1413.at 0 rfl, hm1413.at 1 rfl, hm1413.at 2 rfl⟩, ?_⟩
            simp only [e1, e2, e3]
            refine two_ready 5 7 (by kernel_rfl) ?_ ?_
            · refine opd rfl rfl (m_call hm1413 29 (.agg (ws c)) rfl (run_rwords rfl rfl) (rwords_any c _) (fun w1414 hm1415 => ?_))
              refine ⟨⟨hm1415.at 0 rfl, hm1415.at 1 rfl, hm1415.at 2 rfl⟩, ?_⟩
              simp only [e1, e2, e3]
              refine one_ready 7 (by kernel_rfl) ?_
              refine opd rfl rfl (m_alloc (c := ws 0) (T := 36) hm1415 8 rfl (al_X rfl) (fun g1416 w1417 hm1418 => ?_))
              refine ⟨⟨hm1418.at 0 rfl, hm1418.at 1 rfl, hm1418.at 2 rfl⟩, ?_⟩
              simp only [e1, e2, e3]
              refine one_ready 9 (by kernel_rfl) ?_
              refine opd rfl rfl (m_store 5 36 _ _ (ws a) (old := ws 0) hm1418 rfl rfl rfl rfl rfl (by rw [ws_sz]; exact info_x) ((ws_sz _).trans (ws_sz _).symm) (ws_one _) (fun w1419 hm1420 => ?_))
              refine ⟨⟨hm1420.at 0 rfl, hm1420.at 1 rfl, hm1420.at 2 rfl⟩, ?_⟩
              refine one_ready 10 (by kernel_rfl) ?_
              refine opd rfl rfl (m_store 6 36 _ _ (ws b) (old := ws 0) hm1420 rfl rfl rfl rfl rfl (by rw [ws_sz]; exact info_x) ((ws_sz _).trans (ws_sz _).symm) (ws_one _) (fun w1421 hm1422 => ?_))
              refine ⟨⟨hm1422.at 0 rfl, hm1422.at 1 rfl, hm1422.at 2 rfl⟩, ?_⟩
              refine one_ready 11 (by kernel_rfl) ?_
              refine opd rfl rfl (m_store 4 36 _ _ (ws c) (old := ws 0) hm1422 rfl rfl rfl rfl rfl (by rw [ws_sz]; exact info_x) ((ws_sz _).trans (ws_sz _).symm) (ws_one _) (fun w1423 hm1424 => ?_))
              refine ⟨⟨hm1424.at 0 rfl, hm1424.at 1 rfl, hm1424.at 2 rfl⟩, ?_⟩
              refine wpAnyH_done (by kernel_rfl) ?_ _
              exact ⟨rfl, g1411, g1416, g1378, rfl, (Mm.reorder hm1424 [0, 1, 2, 3, 5, 6, 4] (by decide) rfl)⟩
            · refine opd rfl rfl (m_alloc (c := ws 0) (T := 36) hm1413 8 rfl (al_X rfl) (fun g1425 w1426 hm1427 => ?_))
              refine ⟨⟨hm1427.at 0 rfl, hm1427.at 1 rfl, hm1427.at 2 rfl⟩, ?_⟩
              simp only [e1, e2, e3]
              refine one_ready 5 (by kernel_rfl) ?_
              refine opd rfl rfl (m_call hm1427 29 (.agg (ws c)) rfl (run_rwords rfl rfl) (rwords_any c _) (fun w1428 hm1429 => ?_))
              refine ⟨⟨hm1429.at 0 rfl, hm1429.at 1 rfl, hm1429.at 2 rfl⟩, ?_⟩
              simp only [e1, e2, e3]
              refine one_ready 9 (by kernel_rfl) ?_
              refine opd rfl rfl (m_store 5 36 _ _ (ws a) (old := ws 0) hm1429 rfl rfl rfl rfl rfl (by rw [ws_sz]; exact info_x) ((ws_sz _).trans (ws_sz _).symm) (ws_one _) (fun w1430 hm1431 => ?_))
              refine ⟨⟨hm1431.at 0 rfl, hm1431.at 1 rfl, hm1431.at 2 rfl⟩, ?_⟩
              refine one_ready 10 (by kernel_rfl) ?_
              refine opd rfl rfl (m_store 6 36 _ _ (ws b) (old := ws 0) hm1431 rfl rfl rfl rfl rfl (by rw [ws_sz]; exact info_x) ((ws_sz _).trans (ws_sz _).symm) (ws_one _) (fun w1432 hm1433 => ?_))
              refine ⟨⟨hm1433.at 0 rfl, hm1433.at 1 rfl, hm1433.at 2 rfl⟩, ?_⟩
              refine one_ready 11 (by kernel_rfl) ?_
              refine opd rfl rfl (m_store 4 36 _ _ (ws c) (old := ws 0) hm1433 rfl rfl rfl rfl rfl (by rw [ws_sz]; exact info_x) ((ws_sz _).trans (ws_sz _).symm) (ws_one _) (fun w1434 hm1435 => ?_))
              refine ⟨⟨hm1435.at 0 rfl, hm1435.at 1 rfl, hm1435.at 2 rfl⟩, ?_⟩
              refine wpAnyH_done (by kernel_rfl) ?_ _
              exact ⟨rfl, g1411, g1425, g1378, rfl, (Mm.reorder hm1435 [0, 1, 2, 3, 5, 6, 4] (by decide) rfl)⟩
          · refine opd rfl rfl (m_alloc (c := ws 0) (T := 36) hm1384 8 rfl (al_X rfl) (fun g1436 w1437 hm1438 => ?_))
            refine ⟨⟨hm1438.at 0 rfl, hm1438.at 1 rfl, hm1438.at 2 rfl⟩, ?_⟩
            simp only [e1, e2, e3]
            refine two_ready 5 6 (by kernel_rfl) ?_ ?_
            · refine opd rfl rfl (m_call hm1438 29 (.agg (ws c)) rfl (run_rwords rfl rfl) (rwords_any c _) (fun w1439 hm1440 => ?_))
              refine ⟨⟨hm1440.at 0 rfl, hm1440.at 1 rfl, hm1440.at 2 rfl⟩, ?_⟩
              simp only [e1, e2, e3]
              refine one_ready 6 (by kernel_rfl) ?_
              refine opd rfl rfl (m_alloc (c := ws 0) (T := 36) hm1440 7 rfl (al_X rfl) (fun g1441 w1442 hm1443 => ?_))
              refine ⟨⟨hm1443.at 0 rfl, hm1443.at 1 rfl, hm1443.at 2 rfl⟩, ?_⟩
              simp only [e1, e2, e3]
              refine one_ready 9 (by kernel_rfl) ?_
              refine opd rfl rfl (m_store 6 36 _ _ (ws a) (old := ws 0) hm1443 rfl rfl rfl rfl rfl (by rw [ws_sz]; exact info_x) ((ws_sz _).trans (ws_sz _).symm) (ws_one _) (fun w1444 hm1445 => ?_))
              refine ⟨⟨hm1445.at 0 rfl, hm1445.at 1 rfl, hm1445.at 2 rfl⟩, ?_⟩
              refine one_ready 10 (by kernel_rfl) ?_
              refine opd rfl rfl (m_store 5 36 _ _ (ws b) (old := ws 0) hm1445 rfl rfl rfl rfl rfl (by rw [ws_sz]; exact info_x) ((ws_sz _).trans (ws_sz _).symm) (ws_one _) (fun w1446 hm1447 => ?_))
              refine ⟨⟨hm1447.at 0 rfl, hm1447.at 1 rfl, hm1447.at 2 rfl⟩, ?_⟩
              refine one_ready 11 (by kernel_rfl) ?_
              refine opd rfl rfl (m_store 4 36 _ _ (ws c) (old := ws 0) hm1447 rfl rfl rfl rfl rfl (by rw [ws_sz]; exact info_x) ((ws_sz _).trans (ws_sz _).symm) (ws_one _) (fun w1448 hm1449 => ?_))
              refine ⟨⟨hm1449.at 0 rfl, hm1449.at 1 rfl, hm1449.at 2 rfl⟩, ?_⟩
              refine wpAnyH_done (by kernel_rfl) ?_ _
              exact ⟨rfl, g1441, g1436, g1378, rfl, (Mm.reorder hm1449 [0, 1, 2, 3, 6, 5, 4] (by decide) rfl)⟩
            · refine opd rfl rfl (m_alloc (c := ws 0) (T := 36) hm1438 7 rfl (al_X rfl) (fun g1450 w1451 hm1452 => ?_))
              refine ⟨⟨hm1452.at 0 rfl, hm1452.at 1 rfl, hm1452.at 2 rfl⟩, ?_⟩
              simp only [e1, e2, e3]
              refine one_ready 5 (by kernel_rfl) ?_
              refine opd rfl rfl (m_call hm1452 29 (.agg (ws c)) rfl (run_rwords rfl rfl) (rwords_any c _) (fun w1453 hm1454 => ?_))
              refine ⟨⟨hm1454.at 0 rfl, hm1454.at 1 rfl, hm1454.at 2 rfl⟩, ?_⟩
              simp only [e1, e2, e3]
              refine one_ready 9 (by kernel_rfl) ?_
              refine opd rfl rfl (m_store 6 36 _ _ (ws a) (old := ws 0) hm1454 rfl rfl rfl rfl rfl (by rw [ws_sz]; exact info_x) ((ws_sz _).trans (ws_sz _).symm) (ws_one _) (fun w1455 hm1456 => ?_))
              refine ⟨⟨hm1456.at 0 rfl, hm1456.at 1 rfl, hm1456.at 2 rfl⟩, ?_⟩
              refine one_ready 10 (by kernel_rfl) ?_
              refine opd rfl rfl (m_store 5 36 _ _ (ws b) (old := ws 0) hm1456 rfl rfl rfl rfl rfl (by rw [ws_sz]; exact info_x) ((ws_sz _).trans (ws_sz _).symm) (ws_one _) (fun w1457 hm1458 => ?_))
              refine ⟨⟨hm1458.at 0 rfl, hm1458.at 1 rfl, hm1458.at 2 rfl⟩, ?_⟩
              refine one_ready 11 (by kernel_rfl) ?_
              refine opd rfl rfl (m_store 4 36 _ _ (ws c) (old := ws 0) hm1458 rfl rfl rfl rfl rfl (by rw [ws_sz]; exact info_x) ((ws_sz _).trans (ws_sz _).symm) (ws_one _) (fun w1459 hm1460 => ?_))
              refine ⟨⟨hm1460.at 0 rfl, hm1460.at 1 rfl, hm1460.at 2 rfl⟩, ?_⟩
              refine wpAnyH_done (by kernel_rfl) ?_ _
              exact ⟨rfl, g1450, g1436, g1378, rfl, (Mm.reorder hm1460 [0, 1, 2, 3, 6, 5, 4] (by decide) rfl)⟩
        · refine opd rfl rfl (m_alloc (c := ws 0) (T := 36) hm1382 7 rfl (al_X rfl) (fun g1461 w1462 hm1463 => ?_))
          refine ⟨⟨hm1463.at 0 rfl, hm1463.at 1 rfl, hm1463.at 2 rfl⟩, ?_⟩
          simp only [e1, e2, e3]
          refine two_ready 3 7 (by kernel_rfl) ?_ ?_
          · refine opd rfl rfl (m_call hm1463 27 (.agg (ws b)) rfl (run_rwords rfl rfl) (rwords_any b _) (fun w1464 hm1465 => ?_))
            refine ⟨⟨hm1465.at 0 rfl, hm1465.at 1 rfl, hm1465.at 2 rfl⟩, ?_⟩
            simp only [e1, e2, e3]
            refine two_ready 5 7 (by kernel_rfl) ?_ ?_
            · refine opd rfl rfl (m_call hm1465 29 (.agg (ws c)) rfl (run_rwords rfl rfl) (rwords_any c _) (fun w1466 hm1467 => ?_))
              refine ⟨⟨hm1467.at 0 rfl, hm1467.at 1 rfl, hm1467.at 2 rfl⟩, ?_⟩
              simp only [e1, e2, e3]
              refine one_ready 7 (by kernel_rfl) ?_
              refine opd rfl rfl (m_alloc (c := ws 0) (T := 36) hm1467 8 rfl (al_X rfl) (fun g1468 w1469 hm1470 => ?_))
              refine ⟨⟨hm1470.at 0 rfl, hm1470.at 1 rfl, hm1470.at 2 rfl⟩, ?_⟩
              simp only [e1, e2, e3]
              refine one_ready 9 (by kernel_rfl) ?_
              refine opd rfl rfl (m_store 5 36 _ _ (ws a) (old := ws 0) hm1470 rfl rfl rfl rfl rfl (by rw [ws_sz]; exact info_x) ((ws_sz _).trans (ws_sz _).symm) (ws_one _) (fun w1471 hm1472 => ?_))
              refine ⟨⟨hm1472.at 0 rfl, hm1472.at 1 rfl, hm1472.at 2 rfl⟩, ?_⟩
              refine one_ready 10 (by kernel_rfl) ?_
              refine opd rfl rfl (m_store 6 36 _ _ (ws b) (old := ws 0) hm1472 rfl rfl rfl rfl rfl (by rw [ws_sz]; exact info_x) ((ws_sz _).trans (ws_sz _).symm) (ws_one _) (fun w1473 hm1474 => ?_))
              refine ⟨⟨hm1474.at 0 rfl, hm1474.at 1 rfl, hm1474.at 2 rfl⟩, ?_⟩
              refine one_ready 11 (by kernel_rfl) ?_
              refine opd rfl rfl (m_store 4 36 _ _ (ws c) (old := ws 0) hm1474 rfl rfl rfl rfl rfl (by rw [ws_sz]; exact info_x) ((ws_sz _).trans (ws_sz _).symm) (ws_one _) (fun w1475 hm1476 => ?_))
              refine ⟨⟨hm1476.at 0 rfl, hm1476.at 1 rfl, hm1476.at 2 rfl⟩, ?_⟩
              refine wpAnyH_done (by kernel_rfl) ?_ _
              exact ⟨rfl, g1461, g1468, g1378, rfl, (Mm.reorder hm1476 [0, 1, 2, 3, 5, 6, 4] (by decide) rfl)⟩
            · refine opd rfl rfl (m_alloc (c := ws 0) (T := 36) hm1465 8 rfl (al_X rfl) (fun g1477 w1478 hm1479 => ?_))
              refine ⟨⟨hm1479.at 0 rfl, hm1479.at 1 rfl, hm1479.at 2 rfl⟩, ?_⟩
              simp only [e1, e2, e3]
              refine one_ready 5 (by kernel_rfl) ?_
              refine opd rfl rfl (m_call hm1479 29 (.agg (ws c)) rfl (run_rwords rfl rfl) (rwords_any c _) (fun w1480 hm1481 => ?_))
              refine ⟨⟨hm1481.at 0 rfl, hm1481.at 1 rfl, hm1481.at 2 rfl⟩, ?_⟩
              simp only [e1, e2, e3]
              refine one_ready 9 (by kernel_rfl) ?_
              refine opd rfl rfl (m_store 5 36 _ _ (ws a) (old := ws 0) hm1481 rfl rfl rfl rfl rfl (by rw [ws_sz]; exact info_x) ((ws_sz _).trans (ws_sz _).symm) (ws_one _) (fun w1482 hm1483 => ?_))
              refine ⟨⟨hm1483.at 0 rfl, hm1483.at 1 rfl, hm1483.at 2 rfl⟩, ?_⟩
              refine one_ready 10 (by kernel_rfl) ?_
              refine opd rfl rfl (m_store 6 36 _ _ (ws b) (old := ws 0) hm1483 rfl rfl rfl rfl rfl (by rw [ws_sz]; exact info_x) ((ws_sz _).trans (ws_sz _).symm) (ws_one _) (fun w1484 hm1485 => ?_))
              refine ⟨⟨hm1485.at 0 rfl, hm1485.at 1 rfl, hm1485.at 2 rfl⟩, ?_⟩
              refine one_ready 11 (by kernel_rfl) ?_
              refine opd rfl rfl (m_store 4 36 _ _ (ws c) (old := ws 0) hm1485 rfl rfl rfl rfl rfl (by rw [ws_sz]; exact info_x) ((ws_sz _).trans (ws_sz _).symm) (ws_one _) (fun w1486 hm1487 => ?_))
              refine ⟨⟨hm1487.at 0 rfl, hm1487.at 1 rfl, hm1487.at 2 rfl⟩, ?_⟩
              refine wpAnyH_done (by kernel_rfl) ?_ _
              exact ⟨rfl, g1461, g1477, g1378, rfl, (Mm.reorder hm1487 [0, 1, 2, 3, 5, 6, 4] (by decide) rfl)⟩
          · refine opd rfl rfl (m_alloc (c := ws 0) (T := 36) hm1463 8 rfl (al_X rfl) (fun g1488 w1489 hm1490 => ?_))
            refine ⟨⟨hm1490.at 0 rfl, hm1490.at 1 rfl, hm1490.at 2 rfl⟩, ?_⟩
            simp only [e1, e2, e3]
            refine one_ready 3 (by kernel_rfl) ?_
            refine opd rfl rfl (m_call hm1490 27 (.agg (ws b)) rfl (run_rwords rfl rfl) (rwords_any b _) (fun w1491 hm1492 => ?_))
            refine ⟨⟨hm1492.at 0 rfl, hm1492.at 1 rfl, hm1492.at 2 rfl⟩, ?_⟩
            simp only [e1, e2, e3]
            refine one_ready 5 (by kernel_rfl) ?_
            refine opd rfl rfl (m_call hm1492 29 (.agg (ws c)) rfl (run_rwords rfl rfl) (rwords_any c _) (fun w1493 hm1494 => ?_))
            refine ⟨⟨hm1494.at 0 rfl, hm1494.at 1 rfl, hm1494.at 2 rfl⟩, ?_⟩
            simp only [e1, e2, e3]
            refine one_ready 9 (by kernel_rfl) ?_
            refine opd rfl rfl (m_store 5 36 _ _ (ws a) (old := ws 0) hm1494 rfl rfl rfl rfl rfl (by rw [ws_sz]; exact info_x) ((ws_sz _).trans (ws_sz _).symm) (ws_one _) (fun w1495 hm1496 => ?_))
            refine ⟨⟨hm1496.at 0 rfl, hm1496.at 1 rfl, hm1496.at 2 rfl⟩, ?_⟩
            refine one_ready 10 (by kernel_rfl) ?_
            refine opd rfl rfl (m_store 6 36 _ _ (ws b) (old := ws 0) hm1496 rfl rfl rfl rfl rfl (by rw [ws_sz]; exact info_x) ((ws_sz _).trans (ws_sz _).symm) (ws_one _) (fun w1497 hm1498 => ?_))
            refine ⟨⟨hm1498.at 0 rfl, hm1498.at 1 rfl, hm1498.at 2 rfl⟩, ?_⟩
            refine one_ready 11 (by kernel_rfl) ?_
            refine opd rfl rfl (m_store 4 36 _ _ (ws c) (old := ws 0) hm1498 rfl rfl rfl rfl rfl (by rw [ws_sz]; exact info_x) ((ws_sz _).trans (ws_sz _).symm) (ws_one _) (fun w1499 hm1500 => ?_))
            refine ⟨⟨hm1500.at 0 rfl, hm1500.at 1 rfl, hm1500.at 2 rfl⟩, ?_⟩
            refine wpAnyH_done (by kernel_rfl) ?_ _
            exact ⟨rfl, g1461, g1488, g1378, rfl, (Mm.reorder hm1500 [0, 1, 2, 3, 5, 6, 4] (by decide) rfl)⟩
        · refine opd rfl rfl (m_alloc (c := ws 0) (T := 36) hm1382 8 rfl (al_X rfl) (fun g1501 w1502 hm1503 => ?_))
          refine ⟨⟨hm1503.at 0 rfl, hm1503.at 1 rfl, hm1503.at 2 rfl⟩, ?_⟩
          simp only [e1, e2, e3]
          refine two_ready 3 6 (by kernel_rfl) ?_ ?_
          · refine opd rfl rfl (m_call hm1503 27 (.agg (ws b)) rfl (run_rwords rfl rfl) (rwords_any b _) (fun w1504 hm1505 => ?_))
            refine ⟨⟨hm1505.at 0 rfl, hm1505.at 1 rfl, hm1505.at 2 rfl⟩, ?_⟩
            simp only [e1, e2, e3]
            refine two_ready 5 6 (by kernel_rfl) ?_ ?_
            · refine opd rfl rfl (m_call hm1505 29 (.agg (ws c)) rfl (run_rwords rfl rfl) (rwords_any c _) (fun w1506 hm1507 => ?_))
              refine ⟨⟨hm1507.at 0 rfl, hm1507.at 1 rfl, hm1507.at 2 rfl⟩, ?_⟩
              simp only [e1, e2, e3]
              refine one_ready 6 (by kernel_rfl) ?_
              refine opd rfl rfl (m_alloc (c := ws 0) (T := 36) hm1507 7 rfl (al_X rfl) (fun g1508 w1509 hm1510 => ?_))
              refine ⟨⟨hm1510.at 0 rfl, hm1510.at 1 rfl, hm1510.at 2 rfl⟩, ?_⟩
              simp only [e1, e2, e3]
              refine one_ready 9 (by kernel_rfl) ?_
              refine opd rfl rfl (m_store 6 36 _ _ (ws a) (old := ws 0) hm1510 rfl rfl rfl rfl rfl (by rw [ws_sz]; exact info_x) ((ws_sz _).trans (ws_sz _).symm) (ws_one _) (fun w1511 hm1512 => ?_))
              refine ⟨⟨hm1512.at 0 rfl, hm1512.at 1 rfl, hm1512.at 2 rfl⟩, ?_⟩
              refine one_ready 10 (by kernel_rfl) ?_
              refine opd rfl rfl (m_store 5 36 _ _ (ws b) (old := ws 0) hm1512 rfl rfl rfl rfl rfl (by rw [ws_sz]; exact info_x) ((ws_sz _).trans (ws_sz _).symm) (ws_one _) (fun w1513 hm1514 => ?_))
              refine ⟨⟨hm1514.at 0 rfl, hm1514.at 1 rfl, hm1514.at 2 rfl⟩, ?_⟩
              refine one_ready 11 (by kernel_rfl) ?_
              refine opd rfl rfl (m_store 4 36 _ _ (ws c) (old := ws 0) hm1514 rfl rfl rfl rfl rfl (by rw [ws_sz]; exact info_x) ((ws_sz _).trans (ws_sz _).symm) (ws_one _) (fun w1515 hm1516 => ?_))
              refine ⟨⟨hm1516.at 0 rfl, hm1516.at 1 rfl, hm1516.at 2 rfl⟩, ?_⟩
              refine wpAnyH_done (by kernel_rfl) ?_ _
              exact ⟨rfl, g1508, g1501, g1378, rfl, (Mm.reorder hm1516 [0, 1, 2, 3, 6, 5, 4] (by decide) rfl)⟩
            · refine opd rfl rfl (m_alloc (c := ws 0) (T := 36) hm1505 7 rfl (al_X rfl) (fun g1517 w1518 hm1519 => ?_))
              refine ⟨⟨hm1519.at 0 rfl, hm1519.at 1 rfl, hm1519.at 2 rfl⟩, ?_⟩
              simp only [e1, e2, e3]
              refine one_ready 5 (by kernel_rfl) ?_
              refine opd rfl rfl (m_call hm1519 29 (.agg (ws c)) rfl (run_rwords rfl rfl) (rwords_any c _) (fun w1520 hm1521 => ?_))
              refine ⟨⟨hm1521.at 0 rfl, hm1521.at 1 rfl, hm1521.at 2 rfl⟩, ?_⟩
              simp only [e1, e2, e3]
              refine one_ready 9 (by kernel_rfl) ?_
              refine opd rfl rfl (m_store 6 36 _ _ (ws a) (old := ws 0) hm1521 rfl rfl rfl rfl rfl (by rw [ws_sz]; exact info_x) ((ws_sz _).trans (ws_sz _).symm) (ws_one _) (fun w1522 hm1523 => ?_))
              refine ⟨⟨hm1523.at 0 rfl, hm1523.at 1 rfl, hm1523.at 2 rfl⟩, ?_⟩
              refine one_ready 10 (by kernel_rfl) ?_
              refine opd rfl rfl (m_store 5 36 _ _ (ws b) (old := ws 0) hm1523 rfl rfl rfl rfl rfl (by rw [ws_sz]; exact info_x) ((ws_sz _).trans (ws_sz _).symm) (ws_one _) (fun w1524 hm1525 => ?_))
              refine ⟨⟨hm1525.at 0 rfl, hm1525.at 1 rfl, hm1525.at 2 rfl⟩, ?_⟩
              refine one_ready 11 (by kernel_rfl) ?_
              refine opd rfl rfl (m_store 4 36 _ _ (ws c) (old := ws 0) hm1525 rfl rfl rfl rfl rfl (by rw [ws_sz]; exact info_x) ((ws_sz _).trans (ws_sz _).symm) (ws_one _) (fun w1526 hm1527 => ?_))
              refine ⟨⟨hm1527.at 0 rfl, hm1527.at 1 rfl, hm1527.at 2 rfl⟩, ?_⟩
              refine wpAnyH_done (by kernel_rfl) ?_ _
              exact ⟨rfl, g1517, g1501, g1378, rfl, (Mm.reorder hm1527 [0, 1, 2, 3, 6, 5, 4] (by decide) rfl)⟩
          · refine opd rfl rfl (m_alloc (c := ws 0) (T := 36) hm1503 7 rfl (al_X rfl) (fun g1528 w1529 hm1530 => ?_))
            refine ⟨⟨hm1530.at 0 rfl, hm1530.at 1 rfl, hm1530.at 2 rfl⟩, ?_⟩
            simp only [e1, e2, e3]
            refine one_ready 3 (by kernel_rfl) ?_
            refine opd rfl rfl (m_call hm1530 27 (.agg (ws b)) rfl (run_rwords rfl rfl) (rwords_any b _) (fun w1531 hm1532 => ?_))
            refine ⟨⟨hm1532.at 0 rfl, hm1532.at 1 rfl, hm1532.at 2 rfl⟩, ?_⟩
            simp only [e1, e2, e3]
            refine one_ready 5 (by kernel_rfl) ?_
            refine opd rfl rfl (m_call hm1532 29 (.agg (ws c)) rfl (run_rwords rfl rfl) (rwords_any c _) (fun w1533 hm1534 => ?_))
            refine ⟨⟨hm1534.at 0 rfl, hm1534.at 1 rfl, hm1534.at 2 rfl⟩, ?_⟩
            simp only [e1, e2, e3]
            refine one_ready 9 (by kernel_rfl) ?_
            refine opd rfl rfl (m_store 6 36 _ _ (ws a) (old := ws 0) hm1534 rfl rfl rfl rfl rfl (by rw [ws_sz]; exact info_x) ((ws_sz _).trans (ws_sz _).symm) (ws_one _) (fun w1535 hm1536 => ?_))
            refine ⟨⟨hm1536.at 0 rfl, hm1536.at 1 rfl, hm1536.at 2 rfl⟩, ?_⟩
            refine one_ready 10 (by kernel_rfl) ?_
            refine opd rfl rfl (m_store 5 36 _ _ (ws b) (old := ws 0) hm1536 rfl rfl rfl rfl rfl (by rw [ws_sz]; exact info_x) ((ws_sz _).trans (ws_sz _).symm) (ws_one _) (fun w1537 hm1538 => ?_))
            refine ⟨⟨hm1538.at 0 rfl, hm1538.at 1 rfl, hm1538.at 2 rfl⟩, ?_⟩
            refine one_ready 11 (by kernel_rfl) ?_
            refine opd rfl rfl (m_store 4 36 _ _ (ws c) (old := ws 0) hm1538 rfl rfl rfl rfl rfl (by rw [ws_sz]; exact info_x) ((ws_sz _).trans (ws_sz _).symm) (ws_one _) (fun w1539 hm1540 => ?_))
            refine ⟨⟨hm1540.at 0 rfl, hm1540.at 1 rfl, hm1540.at 2 rfl⟩, ?_⟩
            refine wpAnyH_done (by kernel_rfl) ?_ _
            exact ⟨rfl, g1528, g1501, g1378, rfl, (Mm.reorder hm1540 [0, 1, 2, 3, 6, 5, 4] (by decide) rfl)⟩
      · refine opd rfl rfl (m_alloc (c := ws 0) (T := 36) hm1380 7 rfl (al_X rfl) (fun g1541 w1542 hm1543 => ?_))
        refine ⟨⟨hm1543.at 0 rfl, hm1543.at 1 rfl, hm1543.at 2 rfl⟩, ?_⟩
        simp only [e1, e2, e3]
        refine two_ready 1 7 (by kernel_rfl) ?_ ?_
        · refine opd rfl rfl (m_call hm1543 25 (.agg (ws a)) rfl (run_rwords rfl rfl) (rwords_any a _) (fun w1544 hm1545 => ?_))
          refine ⟨⟨hm1545.at 0 rfl, hm1545.at 1 rfl, hm1545.at 2 rfl⟩, ?_⟩
          simp only [e1, e2, e3]
          refine two_ready 3 7 (by kernel_rfl) ?_ ?_
          · refine opd rfl rfl (m_call hm1545 27 (.agg (ws b)) rfl (run_rwords rfl rfl) (rwords_any b _) (fun w1546 hm1547 => ?_))
            refine ⟨⟨hm1547.at 0 rfl, hm1547.at 1 rfl, hm1547.at 2 rfl⟩, ?_⟩
            simp only [e1, e2, e3]
            refine two_ready 5 7 (by kernel_rfl) ?_ ?_
            · refine opd rfl rfl (m_call hm1547 29 (.agg (ws c)) rfl (run_rwords rfl rfl) (rwords_any c _) (fun w1548 hm1549 => ?_))
              refine ⟨⟨hm1549.at 0 rfl, hm1549.at 1 rfl, hm1549.at 2 rfl⟩, ?_⟩
              simp only [e1, e2, e3]
              refine one_ready 7 (by kernel_rfl) ?_
              refine opd rfl rfl (m_alloc (c := ws 0) (T := 36) hm1549 8 rfl (al_X rfl) (fun g1550 w1551 hm1552 => ?_))
              refine ⟨⟨hm1552.at 0 rfl, hm1552.at 1 rfl, hm1552.at 2 rfl⟩, ?_⟩
              simp only [e1, e2, e3]
              refine one_ready 9 (by kernel_rfl) ?_
              refine opd rfl rfl (m_store 5 36 _ _ (ws a) (old := ws 0) hm1552 rfl rfl rfl rfl rfl (by rw [ws_sz]; exact info_x) ((ws_sz _).trans (ws_sz _).symm) (ws_one _) (fun w1553 hm1554 => ?_))
              refine ⟨⟨hm1554.at 0 rfl, hm1554.at 1 rfl, hm1554.at 2 rfl⟩, ?_⟩
              refine one_ready 10 (by kernel_rfl) ?_
              refine opd rfl rfl (m_store 6 36 _ _ (ws b) (old := ws 0) hm1554 rfl rfl rfl rfl rfl (by rw [ws_sz]; exact info_x) ((ws_sz _).trans (ws_sz _).symm) (ws_one _) (fun w1555 hm1556 => ?_))
              refine ⟨⟨hm1556.at 0 rfl, hm1556.at 1 rfl, hm1556.at 2 rfl⟩, ?_⟩
              refine one_ready 11 (by kernel_rfl) ?_
              refine opd rfl rfl (m_store 4 36 _ _ (ws c) (old := ws 0) hm1556 rfl rfl rfl rfl rfl (by rw [ws_sz]; exact info_x) ((ws_sz _).trans (ws_sz _).symm) (ws_one _) (fun w1557 hm1558 => ?_))
              refine ⟨⟨hm1558.at 0 rfl, hm1558.at 1 rfl, hm1558.at 2 rfl⟩, ?_⟩
              refine wpAnyH_done (by kernel_rfl) ?_ _
              exact ⟨rfl, g1541, g1550, g1378, rfl, (Mm.reorder hm1558 [0, 1, 2, 3, 5, 6, 4] (by decide) rfl)⟩
            · refine opd rfl rfl (m_alloc (c := ws 0) (T := 36) hm1547 8 rfl (al_X rfl) (fun g1559 w1560 hm1561 => ?_))
              refine ⟨⟨hm1561.at 0 rfl, hm1561.at 1 rfl, hm1561.at 2 rfl⟩, ?_⟩
              simp only [e1, e2, e3]
              refine one_ready 5 (by kernel_rfl) ?_
              refine opd rfl rfl (m_call hm1561 29 (.agg (ws c)) rfl (run_rwords rfl rfl) (rwords_any c _) (fun w1562 hm1563 => ?_))
              refine ⟨⟨hm1563.at 0 rfl, hm1563.at 1 rfl, hm1563.at 2 rfl⟩, ?_⟩
              simp only [e1, e2, e3]
              refine one_ready 9 (by kernel_rfl) ?_
              refine opd rfl rfl (m_store 5 36 _ _ (ws a) (old := ws 0) hm1563 rfl rfl rfl rfl rfl (by rw [ws_sz]; exact info_x) ((ws_sz _).trans (ws_sz _).symm) (ws_one _) (fun w1564 hm1565 => ?_))
              refine ⟨⟨hm1565.at 0 rfl, hm1565.at 1 rfl, hm1565.at 2 rfl⟩, ?_⟩
              refine one_ready 10 (by kernel_rfl) ?_
              refine opd rfl rfl (m_store 6 36 _ _ (ws b) (old := ws 0) hm1565 rfl rfl rfl rfl rfl (by rw [ws_sz]; exact info_x) ((ws_sz _).trans (ws_sz _).symm) (ws_one _) (fun w1566 hm1567 => ?_))
              refine ⟨⟨hm1567.at 0 rfl, hm1567.at 1 rfl, hm1567.at 2 rfl⟩, ?_⟩
              refine one_ready 11 (by kernel_rfl) ?_
              refine opd rfl rfl (m_store 4 36 _ _ (ws c) (old := ws 0) hm1567 rfl rfl rfl rfl rfl (by rw [ws_sz]; exact info_x) ((ws_sz _).trans (ws_sz _).symm) (ws_one _) (fun w1568 hm1569 => ?_))
              refine ⟨⟨hm1569.at 0 rfl, hm1569.at 1 rfl, hm1569.at 2 rfl⟩, ?_⟩
              refine wpAnyH_done (by kernel_rfl) ?_ _
              exact ⟨rfl, g1541, g1559, g1378, rfl, (Mm.reorder hm1569 [0, 1, 2, 3, 5, 6, 4] (by decide) rfl)⟩
          · refine opd rfl rfl (m_alloc (c := ws 0) (T := 36) hm1545 8 rfl (al_X rfl) (fun g1570 w1571 hm1572 => ?_))
            refine ⟨⟨hm1572.at 0 rfl, hm1572.at 1 rfl, hm1572.at 2 rfl⟩, ?_⟩
            simp only [e1, e2, e3]
            refine one_ready 3 (by kernel_rfl) ?_
            refine opd rfl rfl (m_call hm1572 27 (.agg (ws b)) rfl (run_rwords rfl rfl) (rwords_any b _) (fun w1573 hm1574 => ?_))
            refine ⟨⟨hm1574.at 0 rfl, hm1574.at 1 rfl, hm1574.at 2 rfl⟩, ?_⟩
            simp only [e1, e2, e3]
            refine one_ready 5 (by kernel_rfl) ?_
            refine opd rfl rfl (m_call hm1574 29 (.agg (ws c)) rfl (run_rwords rfl rfl) (rwords_any c _) (fun w1575 hm1576 => ?_))
            refine ⟨⟨hm1576.at 0 rfl, hm1576.at 1 rfl, hm1576.at 2 rfl⟩, ?_⟩
            simp only [e1, e2, e3]
            refine one_ready 9 (by kernel_rfl) ?_
            refine opd rfl rfl (m_store 5 36 _ _ (ws a) (old := ws 0) hm1576 rfl rfl rfl rfl rfl (by rw [ws_sz]; exact info_x) ((ws_sz _).trans (ws_sz _).symm) (ws_one _) (fun w1577 hm1578 => ?_))
            refine ⟨⟨hm1578.at 0 rfl, hm1578.at 1 rfl, hm1578.at 2 rfl⟩, ?_⟩
            refine one_ready 10 (by kernel_rfl) ?_
            refine opd rfl rfl (m_store 6 36 _ _ (ws b) (old := ws 0) hm1578 rfl rfl rfl rfl rfl (by rw [ws_sz]; exact info_x) ((ws_sz _).trans (ws_sz _).symm) (ws_one _) (fun w1579 hm1580 => ?_))
            refine ⟨⟨hm1580.at 0 rfl, hm1580.at 1 rfl, hm1580.at 2 rfl⟩, ?_⟩
            refine one_ready 11 (by kernel_rfl) ?_
            refine opd rfl rfl (m_store 4 36 _ _ (ws c) (old := ws 0) hm1580 rfl rfl rfl rfl rfl (by rw [ws_sz]; exact info_x) ((ws_sz _).trans (ws_sz _).symm) (ws_one _) (fun w1581 hm1582 => ?_))
            refine ⟨⟨hm1582.at 0 rfl, hm1582.at 1 rfl, hm1582.at 2 rfl⟩, ?_⟩
            refine wpAnyH_done (by kernel_rfl) ?_ _
            exact ⟨rfl, g1541, g1570, g1378, rfl, (Mm.reorder hm1582 [0, 1, 2, 3, 5, 6, 4] (by decide) rfl)⟩
        · refine opd rfl rfl (m_alloc (c := ws 0) (T := 36) hm1543 8 rfl (al_X rfl) (fun g1583 w1584 hm1585 => ?_))
          refine ⟨⟨hm1585.at 0 rfl, hm1585.at 1 rfl, hm1585.at 2 rfl⟩, ?_⟩
          simp only [e1, e2, e3]
          refine one_ready 1 (by kernel_rfl) ?_
          refine opd rfl rfl (m_call hm1585 25 (.agg (ws a)) rfl (run_rwords rfl rfl) (rwords_any a _) (fun w1586 hm1587 => ?_))
          refine ⟨⟨hm1587.at 0 rfl, hm1587.at 1 rfl, hm1587.at 2 rfl⟩, ?_⟩
          simp only [e1, e2, e3]
          refine one_ready 3 (by kernel_rfl) ?_
          refine opd rfl rfl (m_call hm1587 27 (.agg (ws b)) rfl (run_rwords rfl rfl) (rwords_any b _) (fun w1588 hm1589 => ?_))
          refine ⟨⟨hm1589.at 0 rfl, hm1589.at 1 rfl, hm1589.at 2 rfl⟩, ?_⟩
          simp only [e1, e2, e3]
          refine one_ready 5 (by kernel_rfl) ?_
          refine opd rfl rfl (m_call hm1589 29 (.agg (ws c)) rfl (run_rwords rfl rfl) (rwords_any c _) (fun w1590 hm1591 => ?_))
          refine ⟨⟨hm1591.at 0 rfl, hm1591.at 1 rfl, hm1591.at 2 rfl⟩, ?_⟩
          simp only [e1, e2, e3]
          refine one_ready 9 (by kernel_rfl) ?_
          refine opd rfl rfl (m_store 5 36 _ _ (ws a) (old := ws 0) hm1591 rfl rfl rfl rfl rfl (by rw [ws_sz]; exact info_x) ((ws_sz _).trans (ws_sz _).symm) (ws_one _) (fun w1592 hm1593 => ?_))
          refine ⟨⟨hm1593.at 0 rfl, hm1593.at 1 rfl, hm1593.at 2 rfl⟩, ?_⟩
          refine one_ready 10 (by kernel_rfl) ?_
          refine opd rfl rfl (m_store 6 36 _ _ (ws b) (old := ws 0) hm1593 rfl rfl rfl rfl rfl (by rw [ws_sz]; exact info_x) ((ws_sz _).trans (ws_sz _).symm) (ws_one _) (fun w1594 hm1595 => ?_))
          refine ⟨⟨hm1595.at 0 rfl, hm1595.at 1 rfl, hm1595.at 2 rfl⟩, ?_⟩
          refine one_ready 11 (by kernel_rfl) ?_
          refine opd rfl rfl (m_store 4 36 _ _ (ws c) (old := ws 0) hm1595 rfl rfl rfl rfl rfl (by rw [ws_sz]; exact info_x) ((ws_sz _).trans (ws_sz _).symm) (ws_one _) (fun w1596 hm1597 => ?_))
          refine ⟨⟨hm1597.at 0 rfl, hm1597.at 1 rfl, hm1597.at 2 rfl⟩, ?_⟩
          refine wpAnyH_done (by kernel_rfl) ?_ _
          exact ⟨rfl, g1541, g1583, g1378, rfl, (Mm.reorder hm1597 [0, 1, 2, 3, 5, 6, 4] (by decide) rfl)⟩
      · refine opd rfl rfl (m_alloc (c := ws 0) (T := 36) hm1380 8 rfl (al_X rfl) (fun g1598 w1599 hm1600 => ?_))
        refine ⟨⟨hm1600.at 0 rfl, hm1600.at 1 rfl, hm1600.at 2 rfl⟩, ?_⟩
        simp only [e1, e2, e3]
        refine two_ready 1 6 (by kernel_rfl) ?_ ?_
        · refine opd rfl rfl (m_call hm1600 25 (.agg (ws a)) rfl (run_rwords rfl rfl) (rwords_any a _) (fun w1601 hm1602 => ?_))
          refine ⟨⟨hm1602.at 0 rfl, hm1602.at 1 rfl, hm1602.at 2 rfl⟩, ?_⟩
          simp only [e1, e2, e3]
          refine two_ready 3 6 (by kernel_rfl) ?_ ?_
          · refine opd rfl rfl (m_call hm1602 27 (.agg (ws b)) rfl (run_rwords rfl rfl) (rwords_any b _) (fun w1603 hm1604 => ?_))
            refine ⟨⟨hm1604.at 0 rfl, hm1604.at 1 rfl, hm1604.at 2 rfl⟩, ?_⟩
            simp only [e1, e2, e3]
            refine two_ready 5 6 (by kernel_rfl) ?_ ?_
            · refine opd rfl rfl (m_call hm1604 29 (.agg (ws c)) rfl (run_rwords rfl rfl) (rwords_any c _) (fun w1605 hm1606 => ?_))
              refine ⟨⟨hm1606.at 0 rfl, hm1606.at 1 rfl, hm1606.at 2 rfl⟩, ?_⟩
              simp only [e1, e2, e3]
              refine one_ready 6 (by kernel_rfl) ?_
              refine opd rfl rfl (m_alloc (c := ws 0) (T := 36) hm1606 7 rfl (al_X rfl) (fun g1607 w1608 hm1609 => ?_))
              refine ⟨⟨hm1609.at 0 rfl, hm1609.at 1 rfl, hm1609.at 2 rfl⟩, ?_⟩
              simp only [e1, e2, e3]
              refine one_ready 9 (by kernel_rfl) ?_
              refine opd rfl rfl (m_store 6 36 _ _ (ws a) (old := ws 0) hm1609 rfl rfl rfl rfl rfl (by rw [ws_sz]; exact info_x) ((ws_sz _).trans (ws_sz _).symm) (ws_one _) (fun w1610 hm1611 => ?_))
              refine ⟨⟨hm1611.at 0 rfl, hm1611.at 1 rfl, hm1611.at 2 rfl⟩, ?_⟩
              refine one_ready 10 (by kernel_rfl) ?_
              refine opd rfl rfl (m_store 5 36 _ _ (ws b) (old := ws 0) hm1611 rfl rfl rfl rfl rfl (by rw [ws_sz]; exact info_x) ((ws_sz _).trans (ws_sz _).symm) (ws_one _) (fun w1612 hm1613 => ?_))
              refine ⟨⟨hm1613.at 0 rfl, hm1613.at 1 rfl, hm1613.at 2 rfl⟩, ?_⟩
              refine one_ready 11 (by kernel_rfl) ?_
              refine opd rfl rfl (m_store 4 36 _ _ (ws c) (old := ws 0) hm1613 rfl rfl rfl rfl rfl (by rw [ws_sz]; exact info_x) ((ws_sz _).trans (ws_sz _).symm) (ws_one _) (fun w1614 hm1615 => ?_))
              refine ⟨⟨hm1615.at 0 rfl, hm1615.at 1 rfl, hm1615.at 2 rfl⟩, ?_⟩
              refine wpAnyH_done (by kernel_rfl) ?_ _
              exact ⟨rfl, g1607, g1598, g1378, rfl, (Mm.reorder hm1615 [0, 1, 2, 3, 6, 5, 4] (by decide) rfl)⟩
            · refine opd rfl rfl (m_alloc (c := ws 0) (T := 36) hm1604 7 rfl (al_X rfl) (fun g1616 w1617 hm1618 => ?_))
              refine ⟨⟨hm1618.at 0 rfl, hm1618.at 1 rfl, hm1618.at 2 rfl⟩, ?_⟩
              simp only [e1, e2, e3]
              refine one_ready 5 (by kernel_rfl) ?_
              refine opd rfl rfl (m_call hm1618 29 (.agg (ws c)) rfl (run_rwords rfl rfl) (rwords_any c _) (fun w1619 hm1620 => ?_))
              refine ⟨⟨hm1620.at 0 rfl, hm1620.at 1 rfl, hm1620.at 2 rfl⟩, ?_⟩
              simp only [e1, e2, e3]
              refine one_ready 9 (by kernel_rfl) ?_
              refine opd rfl rfl (m_store 6 36 _ _ (ws a) (old := ws 0) hm1620 rfl rfl rfl rfl rfl (by rw [ws_sz]; exact info_x) ((ws_sz _).trans (ws_sz _).symm) (ws_one _) (fun w1621 hm1622 => ?_))
              refine ⟨⟨hm1622.at 0 rfl, hm1622.at 1 rfl, hm1622.at 2 rfl⟩, ?_⟩
              refine one_ready 10 (by kernel_rfl) ?_
              refine opd rfl rfl (m_store 5 36 _ _ (ws b) (old := ws 0) hm1622 rfl rfl rfl rfl rfl (by rw [ws_sz]; exact info_x) ((ws_sz _).trans (ws_sz _).symm) (ws_one _) (fun w1623 hm1624 => ?_))
              refine ⟨⟨hm1624.at 0 rfl, hm1624.at 1 rfl, hm1624.at 2 rfl⟩, ?_⟩
              refine one_ready 11 (by kernel_rfl) ?_
              refine opd rfl rfl (m_store 4 36 _ _ (ws c) (old := ws 0) hm1624 rfl rfl rfl rfl rfl (by rw [ws_sz]; exact info_x) ((ws_sz _).trans (ws_sz _).symm) (ws_one _) (fun w1625 hm1626 => ?_))
              refine ⟨⟨hm1626.at 0 rfl, hm1626.at 1 rfl, hm1626.at 2 rfl⟩, ?_⟩
              refine wpAnyH_done (by kernel_rfl) ?_ _
              exact ⟨rfl, g1616, g1598, g1378, rfl, (Mm.reorder hm1626 [0, 1, 2, 3, 6, 5, 4] (by decide) rfl)⟩
          · refine opd rfl rfl (m_alloc (c := ws 0) (T := 36) hm1602 7 rfl (al_X rfl) (fun g1627 w1628 hm1629 => ?_))
            refine ⟨⟨hm1629.at 0 rfl, hm1629.at 1 rfl, hm1629.at 2 rfl⟩, ?_⟩
            simp only [e1, e2, e3]
            refine one_ready 3 (by kernel_rfl) ?_
            refine opd rfl rfl (m_call hm1629 27 (.agg (ws b)) rfl (run_rwords rfl rfl) (rwords_any b _) (fun w1630 hm1631 => ?_))
            refine ⟨⟨hm1631.at 0 rfl, hm1631.at 1 rfl, hm1631.at 2 rfl⟩, ?_⟩
            simp only [e1, e2, e3]
            refine one_ready 5 (by kernel_rfl) ?_
            refine opd rfl rfl (m_call hm1631 29 (.agg (ws c)) rfl (run_rwords rfl rfl) (rwords_any c _) (fun w1632 hm1633 => ?_))
            refine ⟨⟨hm1633.at 0 rfl, hm1633.at 1 rfl, hm1633.at 2 rfl⟩, ?_⟩
            simp only [e1, e2, e3]
            refine one_ready 9 (by kernel_rfl) ?_
            refine opd rfl rfl (m_store 6 36 _ _ (ws a) (old := ws 0) hm1633 rfl rfl rfl rfl rfl (by rw [ws_sz]; exact info_x) ((ws_sz _).trans (ws_sz _).symm) (ws_one _) (fun w1634 hm1635 => ?_))
            refine ⟨⟨hm1635.at 0 rfl, hm1635.at 1 rfl, hm1635.at 2 rfl⟩, ?_⟩
            refine one_ready 10 (by kernel_rfl) ?_
            refine opd rfl rfl (m_store 5 36 _ _ (ws b) (old := ws 0) hm1635 rfl rfl rfl rfl rfl (by rw [ws_sz]; exact info_x) ((ws_sz _).trans (ws_sz _).symm) (ws_one _) (fun w1636 hm1637 => ?_))
            refine ⟨⟨hm1637.at 0 rfl, hm1637.at 1 rfl, hm1637.at 2 rfl⟩, ?_⟩
            refine one_ready 11 (by kernel_rfl) ?_
            refine opd rfl rfl (m_store 4 36 _ _ (ws c) (old := ws 0) hm1637 rfl rfl rfl rfl rfl (by rw [ws_sz]; exact info_x) ((ws_sz _).trans (ws_sz _).symm) (ws_one _) (fun w1638 hm1639 => ?_))
            refine ⟨⟨hm1639.at 0 rfl, hm1639.at 1 rfl, hm1639.at 2 rfl⟩, ?_⟩
            refine wpAnyH_done (by kernel_rfl) ?_ _
            exact ⟨rfl, g1627, g1598, g1378, rfl, (Mm.reorder hm1639 [0, 1, 2, 3, 6, 5, 4] (by decide) rfl)⟩
        · refine opd rfl rfl (m_alloc (c := ws 0) (T := 36) hm1600 7 rfl (al_X rfl) (fun g1640 w1641 hm1642 => ?_))
          refine ⟨⟨hm1642.at 0 rfl, hm1642.at 1 rfl, hm1642.at 2 rfl⟩, ?_⟩
          simp only [e1, e2, e3]
          refine one_ready 1 (by kernel_rfl) ?_
          refine opd rfl rfl (m_call hm1642 25 (.agg (ws a)) rfl (run_rwords rfl rfl) (rwords_any a _) (fun w1643 hm1644 => ?_))
          refine ⟨⟨hm1644.at 0 rfl, hm1644.at 1 rfl, hm1644.at 2 rfl⟩, ?_⟩
          simp only [e1, e2, e3]
          refine one_ready 3 (by kernel_rfl) ?_
          refine opd rfl rfl (m_call hm1644 27 (.agg (ws b)) rfl (run_rwords rfl rfl) (rwords_any b _) (fun w1645 hm1646 => ?_))
          refine ⟨⟨hm1646.at 0 rfl, hm1646.at 1 rfl, hm1646.at 2 rfl⟩, ?_⟩
          simp only [e1, e2, e3]
          refine one_ready 5 (by kernel_rfl) ?_
          refine opd rfl rfl (m_call hm1646 29 (.agg (ws c)) rfl (run_rwords rfl rfl) (rwords_any c _) (fun w1647 hm1648 => ?_))
          refine ⟨⟨hm1648.at 0 rfl, hm1648.at 1 rfl, hm1648.at 2 rfl⟩, ?_⟩
          simp only [e1, e2, e3]
          refine one_ready 9 (by kernel_rfl) ?_
          refine opd rfl rfl (m_store 6 36 _ _ (ws a) (old := ws 0) hm1648 rfl rfl rfl rfl rfl (by rw [ws_sz]; exact info_x) ((ws_sz _).trans (ws_sz _).symm) (ws_one _) (fun w1649 hm1650 => ?_))
          refine ⟨⟨hm1650.at 0 rfl, hm1650.at 1 rfl, hm1650.at 2 rfl⟩, ?_⟩
          refine one_ready 10 (by kernel_rfl) ?_
          refine opd rfl rfl (m_store 5 36 _ _ (ws b) (old := ws 0) hm1650 rfl rfl rfl rfl rfl (by rw [ws_sz]; exact info_x) ((ws_sz _).trans (ws_sz _).symm) (ws_one _) (fun w1651 hm1652 => ?_))
          refine ⟨⟨hm1652.at 0 rfl, hm1652.at 1 rfl, hm1652.at 2 rfl⟩, ?_⟩
          refine one_ready 11 (by kernel_rfl) ?_
          refine opd rfl rfl (m_store 4 36 _ _ (ws c) (old := ws 0) hm1652 rfl rfl rfl rfl rfl (by rw [ws_sz]; exact info_x) ((ws_sz _).trans (ws_sz _).symm) (ws_one _) (fun w1653 hm1654 => ?_))
          refine ⟨⟨hm1654.at 0 rfl, hm1654.at 1 rfl, hm1654.at 2 rfl⟩, ?_⟩
          refine wpAnyH_done (by kernel_rfl) ?_ _
          exact ⟨rfl, g1640, g1598, g1378, rfl, (Mm.reorder hm1654 [0, 1, 2, 3, 6, 5, 4] (by decide) rfl)⟩
  clear hm13
  rintro _ _ w1655 ⟨rfl, g23, g26, g29, rfl, hm1656⟩
  refine then_n (hK14 _ _ ?_)
  refine wp_seq_k (fun K1657 hK1657 => ?_)
  refine wp_region_lit ?_
  refine lst (wanted_none rfl) (m_alloc (c := w8 0) (T := 40) hm1656 10 rfl (al_8 rfl) (fun g1658 w1659 (hm1660 : Mm w w1659 [(g2, bs a, 23), (g5, bs b, 23), (g8, bs c, 23), (g11, bs 0, 23), (g23, ws a, 36), (g26, ws b, 36), (g29, ws c, 36), (g1658, w8 0, 40)]) => ?_))
  simp only [e1, e2, e3]
  refine wpList_nil ?_
  refine then_n (hK1657 _ _ ?_)
  refine wp_seq_k (fun K1661 hK1661 => ?_)
  refine wp_seq_k (fun K1662 hK1662 => ?_)
  refine wp_region_lit ?_
  refine lst (wanted_none rfl) (w_value 11 (.int .i64 0) rfl (run_as rfl rfl) ?_)
  simp only [e1, e2, e3]
  refine wpList_nil ?_
  have hm1663 : Mm w w1659 [(g2, bs a, 23), (g5, bs b, 23), (g8, bs c, 23), (g11, bs 0, 23), (g23, ws a, 36), (g26, ws b, 36), (g29, ws c, 36), (g1658, rowOf .u64 (mixw c 0 0) 8, 40)] := by rw [show (rowOf .u64 (mixw c 0 0) 8 : Array Value) = w8 0 from mixw_none8 c]; exact hm1660
  refine then_n (hK1662 _ _ ?_)
  refine wp_block ?_
  refine wp_loop_n (fun n' a' w' => ∃ (i : Nat) (u0 : Nat → Value), n' = 4 - i ∧ (i ≤ 4) ∧ a' = ⟨#[.agg (bs a), .agg (bs b), .agg (bs c), .pointer (some ⟨g2, 0, none⟩), .pointer (some ⟨g5, 0, none⟩), .pointer (some ⟨g8, 0, none⟩), .pointer (some ⟨g11, 0, none⟩), .pointer (some ⟨g23, 0, none⟩), .pointer (some ⟨g26, 0, none⟩), .pointer (some ⟨g29, 0, none⟩), .pointer (some ⟨g1658, 0, none⟩), .int .i64 ((i : Nat) : Int), undef, undef, undef, undef, undef, undef, undef, undef, undef, undef, undef, undef, .agg (bs a), .agg (ws a), .agg (bs b), .agg (ws b), .agg (bs c), .agg (ws c), u0 0, u0 1, u0 2, u0 3, u0 4, u0 5, u0 6, u0 7, u0 8, undef, undef, undef, undef, undef, undef, undef, undef, undef, undef, undef, undef, undef, undef, undef, undef, undef, undef, undef, undef, undef, undef, undef, undef, undef, undef, undef, undef, undef, undef, undef, undef, undef, undef, undef, undef, undef, undef, undef, undef, undef, undef, undef, undef, undef, undef, undef, undef, undef, undef, undef, undef, undef, undef, undef, undef, undef, undef, undef, undef, undef, undef, undef, undef, undef], []⟩ ∧ Mm w w' [(g2, bs a, 23), (g5, bs b, 23), (g8, bs c, 23), (g11, bs 0, 23), (g23, ws a, 36), (g26, ws b, 36), (g29, ws c, 36), (g1658, rowOf .u64 (mixw c 0 i) 8, 40)]) ⟨0, (fun qq => List.getD [undef, undef, undef, undef, undef, undef, undef, undef, undef] qq undef), rfl, (by omega), rfl, hm1663⟩ ?_
  clear hm1663
  rintro _ _ w1664 ⟨i, u0, hn0, hi, rfl, hm1665⟩ R1666 hR1666
  refine wp_seq_k (fun K1667 hK1667 => ?_)
  refine wp_seq_k (fun K1668 hK1668 => ?_)
  refine wp_region_lit ?_
  refine lst (wanted_none rfl) (w_value 30 (.int .i64 ((i : Nat) : Int)) rfl (run_mv rfl rfl) ?_)
  simp only [e1, e2, e3]
  refine lst (wanted_none rfl) (w_value 31 (.bool (decide (i < 4))) rfl (r_lss i 4 rfl rfl rfl) ?_)
  simp only [e1, e2, e3]
  refine wpList_nil ?_
  refine then_n (hK1668 _ _ ?_)
  refine cond_d (i < 4) rfl (fun hc1669 => ?_) (fun hc1669 => ?_)
  · refine wp_skip ?_
    refine then_n (hK1667 _ _ ?_)
    refine wp_seq_k (fun K1670 hK1670 => ?_)
    refine wp_block ?_
    refine wp_region_lit ?_
    refine lst (wanted_none rfl) (w_value 34 (.int .i64 ((i : Nat) : Int)) rfl (run_mv rfl rfl) ?_)
    simp only [e1, e2, e3]
    refine lst (wanted_none rfl) (w_value 35 (.int .i64 ((i : Nat) : Int)) rfl (run_mv rfl rfl) ?_)
    simp only [e1, e2, e3]
    refine lst (wanted_none rfl) (w_value 36 (.pointer (some ⟨g29, i, none⟩)) rfl (r_ix g29 i (by omega) Try.underlying36 one_u64 rfl rfl rfl) ?_)
    simp only [e1, e2, e3]
    refine lst (wanted_none rfl) (w_value 37 (.int .u64 (((wd c) i : Nat) : Int)) rfl (r_cell (f := (wd c)) (n := 4) g29 i (by omega) (hm1665.at 6 rfl) Try.underlying35 rfl rfl) ?_)
    simp only [e1, e2, e3]
    refine lst (wanted_none rfl) (w_value 38 (.pointer (some ⟨g1658, i, none⟩)) rfl (r_ix g1658 i (by omega) Try.underlying40 one_u64 rfl rfl rfl) ?_)
    simp only [e1, e2, e3]
    refine lst (wanted_none rfl) (m_put 7 (new := rowOf .u64 (up (mixw c 0 i) i ((wd c) i)) 8) i (.int .u64 (((wd c) i : Nat) : Int)) (old := rowOf .u64 (mixw c 0 i) 8) hm1665 rfl rfl (p_cell (n := 8) (f := (mixw c 0 i)) g1658 i ((wd c) i) (by omega) (hm1665.at 7 rfl) rfl one_u64 rfl rfl) (rowOf_set _ _ _ _ _) (fun w1671 (hm1672 : Mm w w1671 [(g2, bs a, 23), (g5, bs b, 23), (g8, bs c, 23), (g11, bs 0, 23), (g23, ws a, 36), (g26, ws b, 36), (g29, ws c, 36), (g1658, rowOf .u64 (up (mixw c 0 i) i ((wd c) i)) 8, 40)]) => ?_))
    refine wpList_nil ?_
    have hm1673 : Mm w w1671 [(g2, bs a, 23), (g5, bs b, 23), (g8, bs c, 23), (g11, bs 0, 23), (g23, ws a, 36), (g26, ws b, 36), (g29, ws c, 36), (g1658, rowOf .u64 (mixw c 0 (i + 1)) 8, 40)] := by rw [show (rowOf .u64 (mixw c 0 (i + 1)) 8 : Array Value) = rowOf .u64 (up (mixw c 0 i) i ((wd c) i)) 8 from by rw [mixw_up]]; exact hm1672
    refine blk_n ?_
    refine then_n (hK1670 _ _ ?_)
    refine wp_region_lit ?_
    refine lst (wanted_none rfl) (w_value 32 (.int .i64 ((i : Nat) : Int)) rfl (run_mv rfl rfl) ?_)
    simp only [e1, e2, e3]
    refine lst (wanted_none rfl) (w_value 33 (.int .i64 (((i + 1) : Nat) : Int)) rfl (r_add i 1 (show (i + 1) < 9223372036854775808 from by omega) rfl rfl rfl) ?_)
    simp only [e1, e2, e3]
    refine lst (wanted_none rfl) (w_value 11 (.int .i64 (((i + 1) : Nat) : Int)) rfl (run_as rfl rfl) ?_)
    simp only [e1, e2, e3]
    refine wpList_nil ?_
    refine then_n (hR1666 _ _ _ ⟨(i + 1), (fun qq => List.getD [.int .i64 ((i : Nat) : Int), .bool (decide (i < 4)), .int .i64 ((i : Nat) : Int), .int .i64 (((i + 1) : Nat) : Int), .int .i64 ((i : Nat) : Int), .int .i64 ((i : Nat) : Int), .pointer (some ⟨g29, i, none⟩), .int .u64 (((wd c) i : Nat) : Int), .pointer (some ⟨g1658, i, none⟩)] qq undef), rfl, (by omega), rfl, hm1673⟩ ?_)
    omega
  · obtain rfl : i = 4 := by omega
    have hm1674 : Mm w w1664 [(g2, bs a, 23), (g5, bs b, 23), (g8, bs c, 23), (g11, bs 0, 23), (g23, ws a, 36), (g26, ws b, 36), (g29, ws c, 36), (g1658, rowOf .u64 (wd c) 8, 40)] := by rw [show (rowOf .u64 (wd c) 8 : Array Value) = rowOf .u64 (mixw c 0 4) 8 from (mixw_all8 c hc).symm]; exact hm1665
    refine wp_exit ?_
    refine then_x ?_
    refine then_x ?_
    refine blk_x ?_
    refine then_n (hK1661 _ _ ?_)
    refine wp_seq_k (fun K1675 hK1675 => ?_)
    refine wp_seq_k (fun K1676 hK1676 => ?_)
    refine wp_region_lit ?_
    refine lst (wanted_none rfl) (w_value 12 (.int .i64 0) rfl (run_as rfl rfl) ?_)
    simp only [e1, e2, e3]
    refine wpList_nil ?_
    refine then_n (hK1676 _ _ ?_)
    refine wp_block ?_
    refine wp_loop_n (fun n' a' w' => ∃ (i : Nat) (f : Nat → Nat) (u1 : Nat → Value), n' = 4 - i ∧ (i ≤ 4) ∧ (Prc a b c i 0 0 f) ∧ a' = ⟨#[.agg (bs a), .agg (bs b), .agg (bs c), .pointer (some ⟨g2, 0, none⟩), .pointer (some ⟨g5, 0, none⟩), .pointer (some ⟨g8, 0, none⟩), .pointer (some ⟨g11, 0, none⟩), .pointer (some ⟨g23, 0, none⟩), .pointer (some ⟨g26, 0, none⟩), .pointer (some ⟨g29, 0, none⟩), .pointer (some ⟨g1658, 0, none⟩), .int .i64 4, .int .i64 ((i : Nat) : Int), u1 0, u1 1, u1 2, u1 3, u1 4, u1 5, u1 6, u1 7, u1 8, u1 9, u1 10, .agg (bs a), .agg (ws a), .agg (bs b), .agg (ws b), .agg (bs c), .agg (ws c), .int .i64 4, .bool (decide (4 < 4)), u0 2, u0 3, u0 4, u0 5, u0 6, u0 7, u0 8, u1 11, u1 12, u1 13, u1 14, u1 15, u1 16, u1 17, u1 18, u1 19, u1 20, u1 21, u1 22, u1 23, u1 24, u1 25, u1 26, u1 27, u1 28, u1 29, u1 30, u1 31, u1 32, u1 33, u1 34, u1 35, u1 36, u1 37, u1 38, u1 39, u1 40, u1 41, u1 42, u1 43, u1 44, u1 45, u1 46, u1 47, u1 48, u1 49, u1 50, u1 51, u1 52, u1 53, u1 54, u1 55, u1 56, u1 57, u1 58, u1 59, u1 60, u1 61, u1 62, u1 63, u1 64, u1 65, u1 66, u1 67, u1 68, u1 69, u1 70, u1 71, u1 72, undef, undef, undef], []⟩ ∧ Mm w w' [(g2, bs a, 23), (g5, bs b, 23), (g8, bs c, 23), (g11, bs 0, 23), (g23, ws a, 36), (g26, ws b, 36), (g29, ws c, 36), (g1658, rowOf .u64 f 8, 40)]) ⟨0, (wd c), (fun qq => bif Nat.blt qq 24 then List.getD [undef, undef, undef, undef, undef, undef, undef, undef, undef, undef, undef, undef, undef, undef, undef, undef, undef, undef, undef, undef, undef, undef, undef, undef] qq undef else bif Nat.blt qq 48 then List.getD [undef, undef, undef, undef, undef, undef, undef, undef, undef, undef, undef, undef, undef, undef, undef, undef, undef, undef, undef, undef, undef, undef, undef, undef] (qq - 24) undef else bif Nat.blt qq 72 then List.getD [undef, undef, undef, undef, undef, undef, undef, undef, undef, undef, undef, undef, undef, undef, undef, undef, undef, undef, undef, undef, undef, undef, undef, undef] (qq - 48) undef else List.getD [undef] (qq - 72) undef), rfl, (by omega), (prc_start a b c hc), rfl, hm1674⟩ ?_
    clear hm1674
    rintro _ _ w1677 ⟨i, f, u1, hn1, hi, hp, rfl, hm1678⟩ R1679 hR1679
    refine wp_seq_k (fun K1680 hK1680 => ?_)
    refine wp_seq_k (fun K1681 hK1681 => ?_)
    refine wp_region_lit ?_
    refine lst (wanted_none rfl) (w_value 39 (.int .i64 ((i : Nat) : Int)) rfl (run_mv rfl rfl) ?_)
    simp only [e1, e2, e3]
    refine lst (wanted_none rfl) (w_value 40 (.bool (decide (i < 4))) rfl (r_lss i 4 rfl rfl rfl) ?_)
    simp only [e1, e2, e3]
    refine wpList_nil ?_
    refine then_n (hK1681 _ _ ?_)
    refine cond_d (i < 4) rfl (fun hc1682 => ?_) (fun hc1682 => ?_)
    · refine wp_skip ?_
      refine then_n (hK1680 _ _ ?_)
      refine wp_seq_k (fun K1683 hK1683 => ?_)
      refine wp_block ?_
      refine wp_seq_k (fun K1684 hK1684 => ?_)
      refine wp_region_lit ?_
      refine lst (wanted_none rfl) (w_value 13 (.int .u64 0) rfl (run_as rfl rfl) ?_)
      simp only [e1, e2, e3]
      refine wpList_nil ?_
      refine then_n (hK1684 _ _ ?_)
      refine wp_seq_k (fun K1685 hK1685 => ?_)
      refine wp_seq_k (fun K1686 hK1686 => ?_)
      refine wp_region_lit ?_
      refine lst (wanted_none rfl) (w_value 14 (.int .i64 0) rfl (run_as rfl rfl) ?_)
      simp only [e1, e2, e3]
      refine wpList_nil ?_
      refine then_n (hK1686 _ _ ?_)
      refine wp_block ?_
      refine wp_loop_n (fun n' a' w' => ∃ (j : Nat) (o : Nat) (f2 : Nat → Nat) (u2 : Nat → Value), n' = 4 - j ∧ (j ≤ 4) ∧ (Prc a b c i j o f2) ∧ a' = ⟨#[.agg (bs a), .agg (bs b), .agg (bs c), .pointer (some ⟨g2, 0, none⟩), .pointer (some ⟨g5, 0, none⟩), .pointer (some ⟨g8, 0, none⟩), .pointer (some ⟨g11, 0, none⟩), .pointer (some ⟨g23, 0, none⟩), .pointer (some ⟨g26, 0, none⟩), .pointer (some ⟨g29, 0, none⟩), .pointer (some ⟨g1658, 0, none⟩), .int .i64 4, .int .i64 ((i : Nat) : Int), .int .u64 ((o : Nat) : Int), .int .i64 ((j : Nat) : Int), u2 0, u2 1, u2 2, u2 3, u2 4, u2 5, u1 8, u1 9, u1 10, .agg (bs a), .agg (ws a), .agg (bs b), .agg (ws b), .agg (bs c), .agg (ws c), .int .i64 4, .bool (decide (4 < 4)), u0 2, u0 3, u0 4, u0 5, u0 6, u0 7, u0 8, .int .i64 ((i : Nat) : Int), .bool (decide (i < 4)), u1 13, u1 14, u2 6, u2 7, u2 8, u2 9, u2 10, u2 11, u2 12, u2 13, u2 14, u2 15, u2 16, u2 17, u2 18, u2 19, u2 20, u2 21, u2 22, u2 23, u2 24, u2 25, u2 26, u2 27, u2 28, u2 29, u2 30, u2 31, u2 32, u2 33, u2 34, u2 35, u2 36, u2 37, u2 38, u2 39, u2 40, u2 41, u2 42, u2 43, u2 44, u2 45, u1 55, u1 56, u1 57, u1 58, u1 59, u1 60, u1 61, u1 62, u1 63, u1 64, u1 65, u1 66, u1 67, u1 68, u1 69, u1 70, u1 71, u1 72, undef, undef, undef], []⟩ ∧ Mm w w' [(g2, bs a, 23), (g5, bs b, 23), (g8, bs c, 23), (g11, bs 0, 23), (g23, ws a, 36), (g26, ws b, 36), (g29, ws c, 36), (g1658, rowOf .u64 f2 8, 40)]) ⟨0, 0, f, (fun qq => bif Nat.blt qq 24 then List.getD [u1 2, u1 3, u1 4, u1 5, u1 6, u1 7, u1 15, u1 16, u1 17, u1 18, u1 19, u1 20, u1 21, u1 22, u1 23, u1 24, u1 25, u1 26, u1 27, u1 28, u1 29, u1 30, u1 31, u1 32] qq undef else List.getD [u1 33, u1 34, u1 35, u1 36, u1 37, u1 38, u1 39, u1 40, u1 41, u1 42, u1 43, u1 44, u1 45, u1 46, u1 47, u1 48, u1 49, u1 50, u1 51, u1 52, u1 53, u1 54] (qq - 24) undef), rfl, (by omega), hp, rfl, hm1678⟩ ?_
      clear hm1678
      rintro _ _ w1687 ⟨j, o, f2, u2, hn2, hj, hp2, rfl, hm1688⟩ R1689 hR1689
      refine wp_seq_k (fun K1690 hK1690 => ?_)
      refine wp_seq_k (fun K1691 hK1691 => ?_)
      refine wp_region_lit ?_
      refine lst (wanted_none rfl) (w_value 43 (.int .i64 ((j : Nat) : Int)) rfl (run_mv rfl rfl) ?_)
      simp only [e1, e2, e3]
      refine lst (wanted_none rfl) (w_value 44 (.bool (decide (j < 4))) rfl (r_lss j 4 rfl rfl rfl) ?_)
      simp only [e1, e2, e3]
      refine wpList_nil ?_
      refine then_n (hK1691 _ _ ?_)
      refine cond_d (j < 4) rfl (fun hc1692 => ?_) (fun hc1692 => ?_)
      · refine wp_skip ?_
        refine then_n (hK1690 _ _ ?_)
        refine wp_seq_k (fun K1693 hK1693 => ?_)
        refine wp_block ?_
        refine wp_seq_k (fun K1694 hK1694 => ?_)
        have hm1695 := hm1688.drew
        refine wp_region_held_drew (S := fun w' => Sym.Blk w' g23 (ws a) 36 ∧ Sym.Blk w' g26 (ws b) 36) (by kernel_rfl) (⟨hm1688.at 4 rfl, hm1688.at 5 rfl⟩) (fun _ => ?_)
        generalize w1687.drew = w1696 at *
        refine Sym.take_at 0 48 (.int .i64 ((i : Nat) : Int)) rfl rfl (by kernel_rfl) (by kernel_rfl) (by kernel_rfl) (fun _ _ _ h => h) (wanted_none rfl) (fun _ hw => run_mv rfl rfl) (⟨hm1695.at 4 rfl, hm1695.at 5 rfl⟩) ?_
        simp only [e1, e2, e3]
        refine Sym.take_at 1 49 (.pointer (some ⟨g23, i, none⟩)) rfl rfl (by kernel_rfl) (by kernel_rfl) (by kernel_rfl) (fun _ _ _ h => h) (wanted_none rfl) (fun _ hw => r_ix g23 i (by omega) Try.underlying36 one_u64 rfl rfl rfl) (⟨hm1695.at 4 rfl, hm1695.at 5 rfl⟩) ?_
        simp only [e1, e2, e3]
        refine Sym.take_at 2 50 (.int .u64 (((wd a) i : Nat) : Int)) rfl rfl (by kernel_rfl) (by kernel_rfl) (by kernel_rfl) (fun _ _ _ h => h) (wanted_none rfl) (fun _ hw => r_cell (f := (wd a)) (n := 4) g23 i (by omega) hw.1 Try.underlying35 rfl rfl) (⟨hm1695.at 4 rfl, hm1695.at 5 rfl⟩) ?_
        simp only [e1, e2, e3]
        refine Sym.take_at 3 51 (.int .i64 ((j : Nat) : Int)) rfl rfl (by kernel_rfl) (by kernel_rfl) (by kernel_rfl) (fun _ _ _ h => h) (wanted_none rfl) (fun _ hw => run_mv rfl rfl) (⟨hm1695.at 4 rfl, hm1695.at 5 rfl⟩) ?_
        simp only [e1, e2, e3]
        refine Sym.take_at 4 52 (.pointer (some ⟨g26, j, none⟩)) rfl rfl (by kernel_rfl) (by kernel_rfl) (by kernel_rfl) (fun _ _ _ h => h) (wanted_none rfl) (fun _ hw => r_ix g26 j (by omega) Try.underlying36 one_u64 rfl rfl rfl) (⟨hm1695.at 4 rfl, hm1695.at 5 rfl⟩) ?_
        simp only [e1, e2, e3]
        refine Sym.take_at 5 53 (.int .u64 (((wd b) j : Nat) : Int)) rfl rfl (by kernel_rfl) (by kernel_rfl) (by kernel_rfl) (fun _ _ _ h => h) (wanted_none rfl) (fun _ hw => r_cell (f := (wd b)) (n := 4) g26 j (by omega) hw.2 Try.underlying35 rfl rfl) (⟨hm1695.at 4 rfl, hm1695.at 5 rfl⟩) ?_
        simp only [e1, e2, e3]
        refine one_ready 6 (by kernel_rfl) ?_
        refine opd rfl (wanted_none rfl) (m_call hm1695 54 (.tuple #[.int .u64 (((((wd a) i) * ((wd b) j) / 18446744073709551616) : Nat) : Int), .int .u64 (((((wd a) i) * ((wd b) j) % 18446744073709551616) : Nat) : Int)]) rfl (run_mul64 rfl rfl rfl) (mul64_b _ _ (wd_lt _ _) (wd_lt _ _) _) (fun w1697 hm1698 => ?_))
        refine ⟨⟨hm1698.at 4 rfl, hm1698.at 5 rfl⟩, ?_⟩
        simp only [e1, e2, e3]
        refine Sym.take_at 7 47 (.tuple #[.int .u64 (((((wd a) i) * ((wd b) j) / 18446744073709551616) : Nat) : Int), .int .u64 (((((wd a) i) * ((wd b) j) % 18446744073709551616) : Nat) : Int)]) rfl rfl (by kernel_rfl) (by kernel_rfl) (by kernel_rfl) (fun _ _ _ h => h) (wanted_none rfl) (fun _ hw => run_mv rfl rfl) (⟨hm1698.at 4 rfl, hm1698.at 5 rfl⟩) ?_
        simp only [e1, e2, e3]
        refine Sym.take_at 8 55 (.int .u64 (((((wd a) i) * ((wd b) j) / 18446744073709551616) : Nat) : Int)) rfl rfl (by kernel_rfl) (by kernel_rfl) (by kernel_rfl) (fun _ _ _ h => h) (wanted_none rfl) (fun _ hw => run_ex rfl rfl rfl) (⟨hm1698.at 4 rfl, hm1698.at 5 rfl⟩) ?_
        simp only [e1, e2, e3]
        refine Sym.take_at 9 56 (.int .u64 (((((wd a) i) * ((wd b) j) % 18446744073709551616) : Nat) : Int)) rfl rfl (by kernel_rfl) (by kernel_rfl) (by kernel_rfl) (fun _ _ _ h => h) (wanted_none rfl) (fun _ hw => run_ex rfl rfl rfl) (⟨hm1698.at 4 rfl, hm1698.at 5 rfl⟩) ?_
        simp only [e1, e2, e3]
        refine one_ready 10 (by kernel_rfl) ?_
        refine opd rfl (wanted_none rfl) (w_value 15 (.int .u64 (((((wd a) i) * ((wd b) j) / 18446744073709551616) : Nat) : Int)) rfl (run_as rfl rfl) ⟨⟨hm1698.at 4 rfl, hm1698.at 5 rfl⟩, ?_⟩)
        simp only [e1, e2, e3]
        refine one_ready 11 (by kernel_rfl) ?_
        refine opd rfl (wanted_none rfl) (w_value 16 (.int .u64 (((((wd a) i) * ((wd b) j) % 18446744073709551616) : Nat) : Int)) rfl (run_as rfl rfl) ⟨⟨hm1698.at 4 rfl, hm1698.at 5 rfl⟩, ?_⟩)
        simp only [e1, e2, e3]
        refine wpAnyH_done (by kernel_rfl) ?_ _
        refine then_n (hK1694 _ _ ?_)
        refine wp_seq_k (fun K1699 hK1699 => ?_)
        refine wp_region_lit ?_
        refine lst (wanted_none rfl) (w_value 58 (.int .i64 ((i : Nat) : Int)) rfl (run_mv rfl rfl) ?_)
        simp only [e1, e2, e3]
        refine lst (wanted_none rfl) (w_value 59 (.int .i64 ((j : Nat) : Int)) rfl (run_mv rfl rfl) ?_)
        simp only [e1, e2, e3]
        refine lst (wanted_none rfl) (w_value 60 (.int .i64 (((i + j) : Nat) : Int)) rfl (r_add i j (show (i + j) < 9223372036854775808 from by omega) rfl rfl rfl) ?_)
        simp only [e1, e2, e3]
        refine lst (wanted_none rfl) (w_value 61 (.pointer (some ⟨g1658, (i + j), none⟩)) rfl (r_ix g1658 (i + j) (by omega) Try.underlying40 one_u64 rfl rfl rfl) ?_)
        simp only [e1, e2, e3]
        refine lst (wanted_none rfl) (w_value 62 (.int .u64 ((f2 (i + j) : Nat) : Int)) rfl (r_cell (f := f2) (n := 8) g1658 (i + j) (by omega) (hm1698.at 7 rfl) Try.underlying35 rfl rfl) ?_)
        simp only [e1, e2, e3]
        refine lst (wanted_none rfl) (w_value 63 (.int .u64 (((((wd a) i) * ((wd b) j) % 18446744073709551616) : Nat) : Int)) rfl (run_mv rfl rfl) ?_)
        simp only [e1, e2, e3]
        refine lst (wanted_none rfl) (w_value 64 (.tuple #[.int .u64 (((((f2 (i + j)) + (((wd a) i) * ((wd b) j) % 18446744073709551616)) % 18446744073709551616) : Nat) : Int), .int .u64 (((((f2 (i + j)) + (((wd a) i) * ((wd b) j) % 18446744073709551616)) / 18446744073709551616) : Nat) : Int)]) rfl (run_add64o (f2 (i + j)) (((wd a) i) * ((wd b) j) % 18446744073709551616) 0 _ _ (hp2.lt _) (Nat.mod_lt _ (by decide)) (by decide) rfl rfl rfl rfl rfl rfl) ?_)
        simp only [e1, e2, e3]
        refine lst (wanted_none rfl) (w_value 57 (.tuple #[.int .u64 (((((f2 (i + j)) + (((wd a) i) * ((wd b) j) % 18446744073709551616)) % 18446744073709551616) : Nat) : Int), .int .u64 (((((f2 (i + j)) + (((wd a) i) * ((wd b) j) % 18446744073709551616)) / 18446744073709551616) : Nat) : Int)]) rfl (run_mv rfl rfl) ?_)
        simp only [e1, e2, e3]
        refine lst (wanted_none rfl) (w_value 65 (.int .u64 (((((f2 (i + j)) + (((wd a) i) * ((wd b) j) % 18446744073709551616)) % 18446744073709551616) : Nat) : Int)) rfl (run_ex rfl rfl rfl) ?_)
        simp only [e1, e2, e3]
        refine lst (wanted_none rfl) (w_value 66 (.int .u64 (((((f2 (i + j)) + (((wd a) i) * ((wd b) j) % 18446744073709551616)) / 18446744073709551616) : Nat) : Int)) rfl (run_ex rfl rfl rfl) ?_)
        simp only [e1, e2, e3]
        refine lst (wanted_none rfl) (w_value 17 (.int .u64 (((((f2 (i + j)) + (((wd a) i) * ((wd b) j) % 18446744073709551616)) % 18446744073709551616) : Nat) : Int)) rfl (run_as rfl rfl) ?_)
        simp only [e1, e2, e3]
        refine lst (wanted_none rfl) (w_value 18 (.int .u64 (((((f2 (i + j)) + (((wd a) i) * ((wd b) j) % 18446744073709551616)) / 18446744073709551616) : Nat) : Int)) rfl (run_as rfl rfl) ?_)
        simp only [e1, e2, e3]
        refine wpList_nil ?_
        refine then_n (hK1699 _ _ ?_)
        refine wp_seq_k (fun K1700 hK1700 => ?_)
        refine wp_region_lit ?_
        refine lst (wanted_none rfl) (w_value 68 (.int .u64 (((((f2 (i + j)) + (((wd a) i) * ((wd b) j) % 18446744073709551616)) % 18446744073709551616) : Nat) : Int)) rfl (run_mv rfl rfl) ?_)
        simp only [e1, e2, e3]
        refine lst (wanted_none rfl) (w_value 69 (.int .u64 ((o : Nat) : Int)) rfl (run_mv rfl rfl) ?_)
        simp only [e1, e2, e3]
        refine lst (wanted_none rfl) (w_value 70 (.tuple #[.int .u64 (((((((f2 (i + j)) + (((wd a) i) * ((wd b) j) % 18446744073709551616)) % 18446744073709551616) + o) % 18446744073709551616) : Nat) : Int), .int .u64 (((((((f2 (i + j)) + (((wd a) i) * ((wd b) j) % 18446744073709551616)) % 18446744073709551616) + o) / 18446744073709551616) : Nat) : Int)]) rfl (run_add64o (((f2 (i + j)) + (((wd a) i) * ((wd b) j) % 18446744073709551616)) % 18446744073709551616) o 0 _ _ (Nat.mod_lt _ (by decide)) hp2.olt (by decide) rfl rfl rfl rfl rfl rfl) ?_)
        simp only [e1, e2, e3]
        refine lst (wanted_none rfl) (w_value 67 (.tuple #[.int .u64 (((((((f2 (i + j)) + (((wd a) i) * ((wd b) j) % 18446744073709551616)) % 18446744073709551616) + o) % 18446744073709551616) : Nat) : Int), .int .u64 (((((((f2 (i + j)) + (((wd a) i) * ((wd b) j) % 18446744073709551616)) % 18446744073709551616) + o) / 18446744073709551616) : Nat) : Int)]) rfl (run_mv rfl rfl) ?_)
        simp only [e1, e2, e3]
        refine lst (wanted_none rfl) (w_value 71 (.int .u64 (((((((f2 (i + j)) + (((wd a) i) * ((wd b) j) % 18446744073709551616)) % 18446744073709551616) + o) % 18446744073709551616) : Nat) : Int)) rfl (run_ex rfl rfl rfl) ?_)
        simp only [e1, e2, e3]
        refine lst (wanted_none rfl) (w_value 72 (.int .u64 (((((((f2 (i + j)) + (((wd a) i) * ((wd b) j) % 18446744073709551616)) % 18446744073709551616) + o) / 18446744073709551616) : Nat) : Int)) rfl (run_ex rfl rfl rfl) ?_)
        simp only [e1, e2, e3]
        refine lst (wanted_none rfl) (w_value 19 (.int .u64 (((((((f2 (i + j)) + (((wd a) i) * ((wd b) j) % 18446744073709551616)) % 18446744073709551616) + o) % 18446744073709551616) : Nat) : Int)) rfl (run_as rfl rfl) ?_)
        simp only [e1, e2, e3]
        refine lst (wanted_none rfl) (w_value 20 (.int .u64 (((((((f2 (i + j)) + (((wd a) i) * ((wd b) j) % 18446744073709551616)) % 18446744073709551616) + o) / 18446744073709551616) : Nat) : Int)) rfl (run_as rfl rfl) ?_)
        simp only [e1, e2, e3]
        refine wpList_nil ?_
        refine then_n (hK1700 _ _ ?_)
        refine wp_seq_k (fun K1701 hK1701 => ?_)
        refine wp_region_lit ?_
        refine lst (wanted_none rfl) (w_value 73 (.int .i64 ((i : Nat) : Int)) rfl (run_mv rfl rfl) ?_)
        simp only [e1, e2, e3]
        refine lst (wanted_none rfl) (w_value 74 (.int .i64 ((j : Nat) : Int)) rfl (run_mv rfl rfl) ?_)
        simp only [e1, e2, e3]
        refine lst (wanted_none rfl) (w_value 75 (.int .i64 (((i + j) : Nat) : Int)) rfl (r_add i j (show (i + j) < 9223372036854775808 from by omega) rfl rfl rfl) ?_)
        simp only [e1, e2, e3]
        refine lst (wanted_none rfl) (w_value 76 (.int .u64 (((((((f2 (i + j)) + (((wd a) i) * ((wd b) j) % 18446744073709551616)) % 18446744073709551616) + o) % 18446744073709551616) : Nat) : Int)) rfl (run_mv rfl rfl) ?_)
        simp only [e1, e2, e3]
        refine lst (wanted_none rfl) (w_value 77 (.pointer (some ⟨g1658, (i + j), none⟩)) rfl (r_ix g1658 (i + j) (by omega) Try.underlying40 one_u64 rfl rfl rfl) ?_)
        simp only [e1, e2, e3]
        refine lst (wanted_none rfl) (m_put 7 (new := rowOf .u64 (up f2 (i + j) (((((f2 (i + j)) + (((wd a) i) * ((wd b) j) % 18446744073709551616)) % 18446744073709551616) + o) % 18446744073709551616)) 8) (i + j) (.int .u64 (((((((f2 (i + j)) + (((wd a) i) * ((wd b) j) % 18446744073709551616)) % 18446744073709551616) + o) % 18446744073709551616) : Nat) : Int)) (old := rowOf .u64 f2 8) hm1698 rfl rfl (p_cell (n := 8) (f := f2) g1658 (i + j) (((((f2 (i + j)) + (((wd a) i) * ((wd b) j) % 18446744073709551616)) % 18446744073709551616) + o) % 18446744073709551616) (by omega) (hm1698.at 7 rfl) rfl one_u64 rfl rfl) (rowOf_set _ _ _ _ _) (fun w1702 (hm1703 : Mm w w1702 [(g2, bs a, 23), (g5, bs b, 23), (g8, bs c, 23), (g11, bs 0, 23), (g23, ws a, 36), (g26, ws b, 36), (g29, ws c, 36), (g1658, rowOf .u64 (up f2 (i + j) (((((f2 (i + j)) + (((wd a) i) * ((wd b) j) % 18446744073709551616)) % 18446744073709551616) + o) % 18446744073709551616)) 8, 40)]) => ?_))
        refine wpList_nil ?_
        refine then_n (hK1701 _ _ ?_)
        refine wp_region_lit ?_
        refine lst (wanted_none rfl) (w_value 78 (.int .u64 (((((wd a) i) * ((wd b) j) / 18446744073709551616) : Nat) : Int)) rfl (run_mv rfl rfl) ?_)
        simp only [e1, e2, e3]
        refine lst (wanted_none rfl) (w_value 79 (.int .u64 (((((f2 (i + j)) + (((wd a) i) * ((wd b) j) % 18446744073709551616)) / 18446744073709551616) : Nat) : Int)) rfl (run_mv rfl rfl) ?_)
        simp only [e1, e2, e3]
        refine lst (wanted_none rfl) (w_value 80 (.int .u64 ((((((wd a) i) * ((wd b) j) / 18446744073709551616) + (((f2 (i + j)) + (((wd a) i) * ((wd b) j) % 18446744073709551616)) / 18446744073709551616)) : Nat) : Int)) rfl (r_add (((wd a) i) * ((wd b) j) / 18446744073709551616) (((f2 (i + j)) + (((wd a) i) * ((wd b) j) % 18446744073709551616)) / 18446744073709551616) (prc_hi' hp2) rfl rfl rfl) ?_)
        simp only [e1, e2, e3]
        refine lst (wanted_none rfl) (w_value 81 (.int .u64 (((((((f2 (i + j)) + (((wd a) i) * ((wd b) j) % 18446744073709551616)) % 18446744073709551616) + o) / 18446744073709551616) : Nat) : Int)) rfl (run_mv rfl rfl) ?_)
        simp only [e1, e2, e3]
        refine lst (wanted_none rfl) (w_value 82 (.int .u64 (((((((wd a) i) * ((wd b) j) / 18446744073709551616) + (((f2 (i + j)) + (((wd a) i) * ((wd b) j) % 18446744073709551616)) / 18446744073709551616)) + (((((f2 (i + j)) + (((wd a) i) * ((wd b) j) % 18446744073709551616)) % 18446744073709551616) + o) / 18446744073709551616)) : Nat) : Int)) rfl (r_add ((((wd a) i) * ((wd b) j) / 18446744073709551616) + (((f2 (i + j)) + (((wd a) i) * ((wd b) j) % 18446744073709551616)) / 18446744073709551616)) (((((f2 (i + j)) + (((wd a) i) * ((wd b) j) % 18446744073709551616)) % 18446744073709551616) + o) / 18446744073709551616) (prc_over' hp2 (by omega) (by omega)) rfl rfl rfl) ?_)
        simp only [e1, e2, e3]
        refine lst (wanted_none rfl) (w_value 13 (.int .u64 (((((((wd a) i) * ((wd b) j) / 18446744073709551616) + (((f2 (i + j)) + (((wd a) i) * ((wd b) j) % 18446744073709551616)) / 18446744073709551616)) + (((((f2 (i + j)) + (((wd a) i) * ((wd b) j) % 18446744073709551616)) % 18446744073709551616) + o) / 18446744073709551616)) : Nat) : Int)) rfl (run_as rfl rfl) ?_)
        simp only [e1, e2, e3]
        refine wpList_nil ?_
        refine blk_n ?_
        refine then_n (hK1693 _ _ ?_)
        refine wp_region_lit ?_
        refine lst (wanted_none rfl) (w_value 45 (.int .i64 ((j : Nat) : Int)) rfl (run_mv rfl rfl) ?_)
        simp only [e1, e2, e3]
        refine lst (wanted_none rfl) (w_value 46 (.int .i64 (((j + 1) : Nat) : Int)) rfl (r_add j 1 (show (j + 1) < 9223372036854775808 from by omega) rfl rfl rfl) ?_)
        simp only [e1, e2, e3]
        refine lst (wanted_none rfl) (w_value 14 (.int .i64 (((j + 1) : Nat) : Int)) rfl (run_as rfl rfl) ?_)
        simp only [e1, e2, e3]
        refine wpList_nil ?_
        refine then_n (hR1689 _ _ _ ⟨(j + 1), _, _, (fun qq => bif Nat.blt qq 24 then List.getD [.int .u64 (((((wd a) i) * ((wd b) j) / 18446744073709551616) : Nat) : Int), .int .u64 (((((wd a) i) * ((wd b) j) % 18446744073709551616) : Nat) : Int), .int .u64 (((((f2 (i + j)) + (((wd a) i) * ((wd b) j) % 18446744073709551616)) % 18446744073709551616) : Nat) : Int), .int .u64 (((((f2 (i + j)) + (((wd a) i) * ((wd b) j) % 18446744073709551616)) / 18446744073709551616) : Nat) : Int), .int .u64 (((((((f2 (i + j)) + (((wd a) i) * ((wd b) j) % 18446744073709551616)) % 18446744073709551616) + o) % 18446744073709551616) : Nat) : Int), .int .u64 (((((((f2 (i + j)) + (((wd a) i) * ((wd b) j) % 18446744073709551616)) % 18446744073709551616) + o) / 18446744073709551616) : Nat) : Int), .int .i64 ((j : Nat) : Int), .bool (decide (j < 4)), .int .i64 ((j : Nat) : Int), .int .i64 (((j + 1) : Nat) : Int), .tuple #[.int .u64 (((((wd a) i) * ((wd b) j) / 18446744073709551616) : Nat) : Int), .int .u64 (((((wd a) i) * ((wd b) j) % 18446744073709551616) : Nat) : Int)], .int .i64 ((i : Nat) : Int), .pointer (some ⟨g23, i, none⟩), .int .u64 (((wd a) i : Nat) : Int), .int .i64 ((j : Nat) : Int), .pointer (some ⟨g26, j, none⟩), .int .u64 (((wd b) j : Nat) : Int), .tuple #[.int .u64 (((((wd a) i) * ((wd b) j) / 18446744073709551616) : Nat) : Int), .int .u64 (((((wd a) i) * ((wd b) j) % 18446744073709551616) : Nat) : Int)], .int .u64 (((((wd a) i) * ((wd b) j) / 18446744073709551616) : Nat) : Int), .int .u64 (((((wd a) i) * ((wd b) j) % 18446744073709551616) : Nat) : Int), .tuple #[.int .u64 (((((f2 (i + j)) + (((wd a) i) * ((wd b) j) % 18446744073709551616)) % 18446744073709551616) : Nat) : Int), .int .u64 (((((f2 (i + j)) + (((wd a) i) * ((wd b) j) % 18446744073709551616)) / 18446744073709551616) : Nat) : Int)], .int .i64 ((i : Nat) : Int), .int .i64 ((j : Nat) : Int), .int .i64 (((i + j) : Nat) : Int)] qq undef else List.getD [.pointer (some ⟨g1658, (i + j), none⟩), .int .u64 ((f2 (i + j) : Nat) : Int), .int .u64 (((((wd a) i) * ((wd b) j) % 18446744073709551616) : Nat) : Int), .tuple #[.int .u64 (((((f2 (i + j)) + (((wd a) i) * ((wd b) j) % 18446744073709551616)) % 18446744073709551616) : Nat) : Int), .int .u64 (((((f2 (i + j)) + (((wd a) i) * ((wd b) j) % 18446744073709551616)) / 18446744073709551616) : Nat) : Int)], .int .u64 (((((f2 (i + j)) + (((wd a) i) * ((wd b) j) % 18446744073709551616)) % 18446744073709551616) : Nat) : Int), .int .u64 (((((f2 (i + j)) + (((wd a) i) * ((wd b) j) % 18446744073709551616)) / 18446744073709551616) : Nat) : Int), .tuple #[.int .u64 (((((((f2 (i + j)) + (((wd a) i) * ((wd b) j) % 18446744073709551616)) % 18446744073709551616) + o) % 18446744073709551616) : Nat) : Int), .int .u64 (((((((f2 (i + j)) + (((wd a) i) * ((wd b) j) % 18446744073709551616)) % 18446744073709551616) + o) / 18446744073709551616) : Nat) : Int)], .int .u64 (((((f2 (i + j)) + (((wd a) i) * ((wd b) j) % 18446744073709551616)) % 18446744073709551616) : Nat) : Int), .int .u64 ((o : Nat) : Int), .tuple #[.int .u64 (((((((f2 (i + j)) + (((wd a) i) * ((wd b) j) % 18446744073709551616)) % 18446744073709551616) + o) % 18446744073709551616) : Nat) : Int), .int .u64 (((((((f2 (i + j)) + (((wd a) i) * ((wd b) j) % 18446744073709551616)) % 18446744073709551616) + o) / 18446744073709551616) : Nat) : Int)], .int .u64 (((((((f2 (i + j)) + (((wd a) i) * ((wd b) j) % 18446744073709551616)) % 18446744073709551616) + o) % 18446744073709551616) : Nat) : Int), .int .u64 (((((((f2 (i + j)) + (((wd a) i) * ((wd b) j) % 18446744073709551616)) % 18446744073709551616) + o) / 18446744073709551616) : Nat) : Int), .int .i64 ((i : Nat) : Int), .int .i64 ((j : Nat) : Int), .int .i64 (((i + j) : Nat) : Int), .int .u64 (((((((f2 (i + j)) + (((wd a) i) * ((wd b) j) % 18446744073709551616)) % 18446744073709551616) + o) % 18446744073709551616) : Nat) : Int), .pointer (some ⟨g1658, (i + j), none⟩), .int .u64 (((((wd a) i) * ((wd b) j) / 18446744073709551616) : Nat) : Int), .int .u64 (((((f2 (i + j)) + (((wd a) i) * ((wd b) j) % 18446744073709551616)) / 18446744073709551616) : Nat) : Int), .int .u64 ((((((wd a) i) * ((wd b) j) / 18446744073709551616) + (((f2 (i + j)) + (((wd a) i) * ((wd b) j) % 18446744073709551616)) / 18446744073709551616)) : Nat) : Int), .int .u64 (((((((f2 (i + j)) + (((wd a) i) * ((wd b) j) % 18446744073709551616)) % 18446744073709551616) + o) / 18446744073709551616) : Nat) : Int), .int .u64 (((((((wd a) i) * ((wd b) j) / 18446744073709551616) + (((f2 (i + j)) + (((wd a) i) * ((wd b) j) % 18446744073709551616)) / 18446744073709551616)) + (((((f2 (i + j)) + (((wd a) i) * ((wd b) j) % 18446744073709551616)) % 18446744073709551616) + o) / 18446744073709551616)) : Nat) : Int)] (qq - 24) undef), rfl, (by omega), (prc_next' hp2 (by omega) (by omega)), rfl, hm1703⟩ ?_)
        omega
      · obtain rfl : j = 4 := by omega
        refine wp_exit ?_
        refine then_x ?_
        refine then_x ?_
        refine blk_x ?_
        refine then_n (hK1685 _ _ ?_)
        refine wp_seq_k (fun K1704 hK1704 => ?_)
        refine wp_region_lit ?_
        refine lst (wanted_none rfl) (w_value 83 (.int .i64 ((i : Nat) : Int)) rfl (run_mv rfl rfl) ?_)
        simp only [e1, e2, e3]
        refine lst (wanted_none rfl) (w_value 84 (.int .i64 (((i + 4) : Nat) : Int)) rfl (r_add i 4 (show (i + 4) < 9223372036854775808 from by omega) rfl rfl rfl) ?_)
        simp only [e1, e2, e3]
        refine lst (wanted_none rfl) (w_value 21 (.int .i64 (((i + 4) : Nat) : Int)) rfl (run_as rfl rfl) ?_)
        simp only [e1, e2, e3]
        refine wpList_nil ?_
        have hm1705 : Mm w w1687 [(g2, bs a, 23), (g5, bs b, 23), (g8, bs c, 23), (g11, bs 0, 23), (g23, ws a, 36), (g26, ws b, 36), (g29, ws c, 36), (g1658, rowOf .u64 (ch f2 o i (i + 4)) 8, 40)] := by rw [show (rowOf .u64 (ch f2 o i (i + 4)) 8 : Array Value) = rowOf .u64 f2 8 from by rw [ch_start]]; exact hm1688
        rw [show ((.int .u64 ((o : Nat) : Int)) : Value) = .int .u64 (((co o i (i + 4)) : Nat) : Int) from by rw [co_start]]
        refine then_n (hK1704 _ _ ?_)
        refine wp_block ?_
        refine wp_loop_n (fun n' a' w' => ∃ (t : Nat) (u3 : Nat → Value), n' = 8 - t ∧ (i + 4 ≤ t) ∧ (t ≤ 8) ∧ a' = ⟨#[.agg (bs a), .agg (bs b), .agg (bs c), .pointer (some ⟨g2, 0, none⟩), .pointer (some ⟨g5, 0, none⟩), .pointer (some ⟨g8, 0, none⟩), .pointer (some ⟨g11, 0, none⟩), .pointer (some ⟨g23, 0, none⟩), .pointer (some ⟨g26, 0, none⟩), .pointer (some ⟨g29, 0, none⟩), .pointer (some ⟨g1658, 0, none⟩), .int .i64 4, .int .i64 ((i : Nat) : Int), .int .u64 (((co o i t) : Nat) : Int), .int .i64 4, u2 0, u2 1, u2 2, u2 3, u2 4, u2 5, .int .i64 ((t : Nat) : Int), u3 0, u3 1, .agg (bs a), .agg (ws a), .agg (bs b), .agg (ws b), .agg (bs c), .agg (ws c), .int .i64 4, .bool (decide (4 < 4)), u0 2, u0 3, u0 4, u0 5, u0 6, u0 7, u0 8, .int .i64 ((i : Nat) : Int), .bool (decide (i < 4)), u1 13, u1 14, .int .i64 4, .bool (decide (4 < 4)), u2 8, u2 9, u2 10, u2 11, u2 12, u2 13, u2 14, u2 15, u2 16, u2 17, u2 18, u2 19, u2 20, u2 21, u2 22, u2 23, u2 24, u2 25, u2 26, u2 27, u2 28, u2 29, u2 30, u2 31, u2 32, u2 33, u2 34, u2 35, u2 36, u2 37, u2 38, u2 39, u2 40, u2 41, u2 42, u2 43, u2 44, u2 45, .int .i64 ((i : Nat) : Int), .int .i64 (((i + 4) : Nat) : Int), u3 2, u3 3, u3 4, u3 5, u3 6, u3 7, u3 8, u3 9, u3 10, u3 11, u3 12, u3 13, u3 14, u3 15, u3 16, u3 17, undef, undef, undef], []⟩ ∧ Mm w w' [(g2, bs a, 23), (g5, bs b, 23), (g8, bs c, 23), (g11, bs 0, 23), (g23, ws a, 36), (g26, ws b, 36), (g29, ws c, 36), (g1658, rowOf .u64 (ch f2 o i t) 8, 40)]) ⟨(i + 4), (fun qq => List.getD [u1 9, u1 10, u1 57, u1 58, u1 59, u1 60, u1 61, u1 62, u1 63, u1 64, u1 65, u1 66, u1 67, u1 68, u1 69, u1 70, u1 71, u1 72] qq undef), rfl, (by omega), (by omega), rfl, hm1705⟩ ?_
        clear hm1705
        rintro _ _ w1706 ⟨t, u3, hn3, ht, ht8, rfl, hm1707⟩ R1708 hR1708
        refine wp_seq_k (fun K1709 hK1709 => ?_)
        refine wp_seq_k (fun K1710 hK1710 => ?_)
        refine wp_region_lit ?_
        refine lst (wanted_none rfl) (w_value 85 (.int .i64 ((t : Nat) : Int)) rfl (run_mv rfl rfl) ?_)
        simp only [e1, e2, e3]
        refine lst (wanted_none rfl) (w_value 86 (.bool (decide (t < 8))) rfl (r_lss t 8 rfl rfl rfl) ?_)
        simp only [e1, e2, e3]
        refine wpList_nil ?_
        refine then_n (hK1710 _ _ ?_)
        refine cond_d (t < 8) rfl (fun hc1711 => ?_) (fun hc1711 => ?_)
        · refine wp_skip ?_
          refine then_n (hK1709 _ _ ?_)
          refine wp_seq_k (fun K1712 hK1712 => ?_)
          refine wp_block ?_
          refine wp_seq_k (fun K1713 hK1713 => ?_)
          refine wp_region_lit ?_
          refine lst (wanted_none rfl) (w_value 90 (.int .i64 ((t : Nat) : Int)) rfl (run_mv rfl rfl) ?_)
          simp only [e1, e2, e3]
          refine lst (wanted_none rfl) (w_value 91 (.pointer (some ⟨g1658, t, none⟩)) rfl (r_ix g1658 t (by omega) Try.underlying40 one_u64 rfl rfl rfl) ?_)
          simp only [e1, e2, e3]
          refine lst (wanted_none rfl) (w_value 92 (.int .u64 (((ch f2 o i t) t : Nat) : Int)) rfl (r_cell (f := (ch f2 o i t)) (n := 8) g1658 t (by omega) (hm1707.at 7 rfl) Try.underlying35 rfl rfl) ?_)
          simp only [e1, e2, e3]
          refine lst (wanted_none rfl) (w_value 93 (.int .u64 (((co o i t) : Nat) : Int)) rfl (run_mv rfl rfl) ?_)
          simp only [e1, e2, e3]
          refine lst (wanted_none rfl) (w_value 94 (.tuple #[.int .u64 ((((((ch f2 o i t) t) + (co o i t)) % 18446744073709551616) : Nat) : Int), .int .u64 ((((((ch f2 o i t) t) + (co o i t)) / 18446744073709551616) : Nat) : Int)]) rfl (run_add64o ((ch f2 o i t) t) (co o i t) 0 _ _ (ch_lt hp2 _ _) (co_lt hp2 _) (by decide) rfl rfl rfl rfl rfl rfl) ?_)
          simp only [e1, e2, e3]
          refine lst (wanted_none rfl) (w_value 89 (.tuple #[.int .u64 ((((((ch f2 o i t) t) + (co o i t)) % 18446744073709551616) : Nat) : Int), .int .u64 ((((((ch f2 o i t) t) + (co o i t)) / 18446744073709551616) : Nat) : Int)]) rfl (run_mv rfl rfl) ?_)
          simp only [e1, e2, e3]
          refine lst (wanted_none rfl) (w_value 95 (.int .u64 ((((((ch f2 o i t) t) + (co o i t)) % 18446744073709551616) : Nat) : Int)) rfl (run_ex rfl rfl rfl) ?_)
          simp only [e1, e2, e3]
          refine lst (wanted_none rfl) (w_value 96 (.int .u64 ((((((ch f2 o i t) t) + (co o i t)) / 18446744073709551616) : Nat) : Int)) rfl (run_ex rfl rfl rfl) ?_)
          simp only [e1, e2, e3]
          refine lst (wanted_none rfl) (w_value 22 (.int .u64 ((((((ch f2 o i t) t) + (co o i t)) % 18446744073709551616) : Nat) : Int)) rfl (run_as rfl rfl) ?_)
          simp only [e1, e2, e3]
          refine lst (wanted_none rfl) (w_value 23 (.int .u64 ((((((ch f2 o i t) t) + (co o i t)) / 18446744073709551616) : Nat) : Int)) rfl (run_as rfl rfl) ?_)
          simp only [e1, e2, e3]
          refine wpList_nil ?_
          refine then_n (hK1713 _ _ ?_)
          refine wp_seq_k (fun K1714 hK1714 => ?_)
          refine wp_region_lit ?_
          refine lst (wanted_none rfl) (w_value 97 (.int .i64 ((t : Nat) : Int)) rfl (run_mv rfl rfl) ?_)
          simp only [e1, e2, e3]
          refine lst (wanted_none rfl) (w_value 98 (.int .u64 ((((((ch f2 o i t) t) + (co o i t)) % 18446744073709551616) : Nat) : Int)) rfl (run_mv rfl rfl) ?_)
          simp only [e1, e2, e3]
          refine lst (wanted_none rfl) (w_value 99 (.pointer (some ⟨g1658, t, none⟩)) rfl (r_ix g1658 t (by omega) Try.underlying40 one_u64 rfl rfl rfl) ?_)
          simp only [e1, e2, e3]
          refine lst (wanted_none rfl) (m_put 7 (new := rowOf .u64 (up (ch f2 o i t) t ((((ch f2 o i t) t) + (co o i t)) % 18446744073709551616)) 8) t (.int .u64 ((((((ch f2 o i t) t) + (co o i t)) % 18446744073709551616) : Nat) : Int)) (old := rowOf .u64 (ch f2 o i t) 8) hm1707 rfl rfl (p_cell (n := 8) (f := (ch f2 o i t)) g1658 t ((((ch f2 o i t) t) + (co o i t)) % 18446744073709551616) (by omega) (hm1707.at 7 rfl) rfl one_u64 rfl rfl) (rowOf_set _ _ _ _ _) (fun w1715 (hm1716 : Mm w w1715 [(g2, bs a, 23), (g5, bs b, 23), (g8, bs c, 23), (g11, bs 0, 23), (g23, ws a, 36), (g26, ws b, 36), (g29, ws c, 36), (g1658, rowOf .u64 (up (ch f2 o i t) t ((((ch f2 o i t) t) + (co o i t)) % 18446744073709551616)) 8, 40)]) => ?_))
          refine wpList_nil ?_
          have hm1717 : Mm w w1715 [(g2, bs a, 23), (g5, bs b, 23), (g8, bs c, 23), (g11, bs 0, 23), (g23, ws a, 36), (g26, ws b, 36), (g29, ws c, 36), (g1658, rowOf .u64 (ch f2 o i (t + 1)) 8, 40)] := by rw [show (rowOf .u64 (ch f2 o i (t + 1)) 8 : Array Value) = rowOf .u64 (up (ch f2 o i t) t ((((ch f2 o i t) t) + (co o i t)) % 18446744073709551616)) 8 from by rw [← ch_step hp2 t (by omega) (by omega)]]; exact hm1716
          refine then_n (hK1714 _ _ ?_)
          refine wp_region_lit ?_
          refine lst (wanted_none rfl) (w_value 100 (.int .u64 ((((((ch f2 o i t) t) + (co o i t)) / 18446744073709551616) : Nat) : Int)) rfl (run_mv rfl rfl) ?_)
          simp only [e1, e2, e3]
          refine lst (wanted_none rfl) (w_value 13 (.int .u64 ((((((ch f2 o i t) t) + (co o i t)) / 18446744073709551616) : Nat) : Int)) rfl (run_as rfl rfl) ?_)
          simp only [e1, e2, e3]
          refine wpList_nil ?_
          rw [show ((.int .u64 ((((((ch f2 o i t) t) + (co o i t)) / 18446744073709551616) : Nat) : Int)) : Value) = .int .u64 (((co o i (t + 1)) : Nat) : Int) from by rw [(ch_sum hp2 t (by omega) (by omega)).2]]
          refine blk_n ?_
          refine then_n (hK1712 _ _ ?_)
          refine wp_region_lit ?_
          refine lst (wanted_none rfl) (w_value 87 (.int .i64 ((t : Nat) : Int)) rfl (run_mv rfl rfl) ?_)
          simp only [e1, e2, e3]
          refine lst (wanted_none rfl) (w_value 88 (.int .i64 (((t + 1) : Nat) : Int)) rfl (r_add t 1 (show (t + 1) < 9223372036854775808 from by omega) rfl rfl rfl) ?_)
          simp only [e1, e2, e3]
          refine lst (wanted_none rfl) (w_value 21 (.int .i64 (((t + 1) : Nat) : Int)) rfl (run_as rfl rfl) ?_)
          simp only [e1, e2, e3]
          refine wpList_nil ?_
          refine then_n (hR1708 _ _ _ ⟨(t + 1), (fun qq => List.getD [.int .u64 ((((((ch f2 o i t) t) + (co o i t)) % 18446744073709551616) : Nat) : Int), .int .u64 (((co o i (t + 1)) : Nat) : Int), .int .i64 ((t : Nat) : Int), .bool (decide (t < 8)), .int .i64 ((t : Nat) : Int), .int .i64 (((t + 1) : Nat) : Int), .tuple #[.int .u64 ((((((ch f2 o i t) t) + (co o i t)) % 18446744073709551616) : Nat) : Int), .int .u64 (((co o i (t + 1)) : Nat) : Int)], .int .i64 ((t : Nat) : Int), .pointer (some ⟨g1658, t, none⟩), .int .u64 (((ch f2 o i t) t : Nat) : Int), .int .u64 (((co o i t) : Nat) : Int), .tuple #[.int .u64 ((((((ch f2 o i t) t) + (co o i t)) % 18446744073709551616) : Nat) : Int), .int .u64 (((co o i (t + 1)) : Nat) : Int)], .int .u64 ((((((ch f2 o i t) t) + (co o i t)) % 18446744073709551616) : Nat) : Int), .int .u64 (((co o i (t + 1)) : Nat) : Int), .int .i64 ((t : Nat) : Int), .int .u64 ((((((ch f2 o i t) t) + (co o i t)) % 18446744073709551616) : Nat) : Int), .pointer (some ⟨g1658, t, none⟩), .int .u64 (((co o i (t + 1)) : Nat) : Int)] qq undef), rfl, (by omega), (by omega), rfl, hm1717⟩ ?_)
          omega
        · obtain rfl : t = 8 := by omega
          refine wp_exit ?_
          refine then_x ?_
          refine then_x ?_
          refine blk_x ?_
          refine blk_n ?_
          refine then_n (hK1683 _ _ ?_)
          refine wp_region_lit ?_
          refine lst (wanted_none rfl) (w_value 41 (.int .i64 ((i : Nat) : Int)) rfl (run_mv rfl rfl) ?_)
          simp only [e1, e2, e3]
          refine lst (wanted_none rfl) (w_value 42 (.int .i64 (((i + 1) : Nat) : Int)) rfl (r_add i 1 (show (i + 1) < 9223372036854775808 from by omega) rfl rfl rfl) ?_)
          simp only [e1, e2, e3]
          refine lst (wanted_none rfl) (w_value 12 (.int .i64 (((i + 1) : Nat) : Int)) rfl (run_as rfl rfl) ?_)
          simp only [e1, e2, e3]
          refine wpList_nil ?_
          refine then_n (hR1679 _ _ _ ⟨(i + 1), _, (fun qq => bif Nat.blt qq 24 then List.getD [.int .u64 (((co o i 8) : Nat) : Int), .int .i64 4, u2 0, u2 1, u2 2, u2 3, u2 4, u2 5, .int .i64 8, u3 0, u3 1, .int .i64 ((i : Nat) : Int), .bool (decide (i < 4)), .int .i64 ((i : Nat) : Int), .int .i64 (((i + 1) : Nat) : Int), .int .i64 4, .bool (decide (4 < 4)), u2 8, u2 9, u2 10, u2 11, u2 12, u2 13, u2 14] qq undef else bif Nat.blt qq 48 then List.getD [u2 15, u2 16, u2 17, u2 18, u2 19, u2 20, u2 21, u2 22, u2 23, u2 24, u2 25, u2 26, u2 27, u2 28, u2 29, u2 30, u2 31, u2 32, u2 33, u2 34, u2 35, u2 36, u2 37, u2 38] (qq - 24) undef else bif Nat.blt qq 72 then List.getD [u2 39, u2 40, u2 41, u2 42, u2 43, u2 44, u2 45, .int .i64 ((i : Nat) : Int), .int .i64 (((i + 4) : Nat) : Int), .int .i64 8, .bool (decide (8 < 8)), u3 4, u3 5, u3 6, u3 7, u3 8, u3 9, u3 10, u3 11, u3 12, u3 13, u3 14, u3 15, u3 16] (qq - 48) undef else List.getD [u3 17] (qq - 72) undef), rfl, (by omega), (ch_end hp2 hb (by omega)), rfl, hm1707⟩ ?_)
          omega
    · obtain rfl : i = 4 := by omega
      have hm1718 : Mm w w1677 [(g2, bs a, 23), (g5, bs b, 23), (g8, bs c, 23), (g11, bs 0, 23), (g23, ws a, 36), (g26, ws b, 36), (g29, ws c, 36), (g1658, w8 (a * b + c), 40)] := by rw [show (w8 (a * b + c) : Array Value) = rowOf .u64 f 8 from prc_all hp ha]; exact hm1678
      refine wp_exit ?_
      refine then_x ?_
      refine then_x ?_
      refine blk_x ?_
      refine then_n (hK1675 _ _ ?_)
      refine wp_seq_k (fun K1719 hK1719 => ?_)
      refine wp_region_lit ?_
      refine lst (wanted_none rfl) (w_value 101 (.agg (w8 (a * b + c))) rfl (run_row rfl rfl (hm1718.at 7 rfl) Try.underlying40 rfl (by rw [w8_sz]; exact info_8)) ?_)
      simp only [e1, e2, e3]
      refine lst (wanted_none rfl) (m_call hm1718 102 (.agg (ws ((a * b + c) % LL))) rfl (run_rrest rfl rfl) (rrest_any (a * b + c) (sum_lt a b c ha hb hc) _) (fun w1720 hm1721 => ?_))
      simp only [e1, e2, e3]
      refine lst (wanted_none rfl) (m_call hm1721 103 (.agg (bs ((a * b + c) % LL))) rfl (run_rnum rfl rfl) (rnum_any ((a * b + c) % LL) _) (fun w1722 hm1723 => ?_))
      simp only [e1, e2, e3]
      refine lst (wanted_none rfl) (m_store 3 23 _ _ (bs ((a * b + c) % LL)) (old := bs 0) hm1723 rfl rfl rfl rfl rfl (by rw [bs_sz]; exact info_b) ((bs_sz _).trans (bs_sz _).symm) (bs_one _) (fun w1724 (hm1725 : Mm w w1724 [(g2, bs a, 23), (g5, bs b, 23), (g8, bs c, 23), (g11, bs ((a * b + c) % LL), 23), (g23, ws a, 36), (g26, ws b, 36), (g29, ws c, 36), (g1658, w8 (a * b + c), 40)]) => ?_))
      refine wpList_nil ?_
      refine then_n (hK1719 _ _ ?_)
      refine wp_ret ?_
      exact ⟨rfl, .agg (bs ((a * b + c) % LL)), res_c rfl rfl (hm1725.at 3 rfl) Try.underlying23 rfl (by rw [bs_sz]; exact info_b), ⟨rfl, hm1725.below⟩⟩
end Go.Proofs.Ytcemcnbhnedaaaa.Fld
