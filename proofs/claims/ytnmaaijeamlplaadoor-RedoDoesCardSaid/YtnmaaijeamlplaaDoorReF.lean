import Derived.Test.YtnmaaijeamlplaaDoorReD
set_option linter.unusedVariables false
set_option linter.unusedSimpArgs false
set_option maxHeartbeats 4000000
set_option maxRecDepth 100000
namespace Go.Proofs.YtnmaaijeamlplaaDoor.Bk
open Go.Proofs.YtnmaaijeamlplaaDoor.Mem
theorem putfl_near (d : Dk) (at_ : Int) (l : List (List UInt8)) : near d (putfl_m d at_ l).1 l.length := by
 have h1 := putall_near d at_ l
 unfold putfl_m
 by_cases h : (putall_m d at_ l).2 = 0
 ·rw [if_neg (fun c => c h)]
  have h2 := flush_near (putall_m d at_ l).1
  exact ⟨h2.1.trans h1.1, by have a := h2.2.1; have b := h1.2.1; show (flush_m (putall_m d at_ l).1).1.loose.length ≤ _; omega, fun h => h2.2.2 (h1.2.2 h)⟩
 rw [if_pos h]
 exact h1
end Go.Proofs.YtnmaaijeamlplaaDoor.Bk
namespace Go.Proofs.YtnmaaijeamlplaaDoor.Bk
open Go.RowKit
open Go.Proofs.YtnmaaijeamlplaaDoor.Sym Go.Proofs.YtnmaaijeamlplaaDoor.Mem
open Go.Proofs.YtnmaaijeamlplaaDoor.Sx hiding Mm m_alloc m_store m_call m_callx
attribute [local irreducible] right_m rright_m ready_m rready_m copied_m burn_m put_m get_m flush_m spent_m rput_m rget_m rflush_m blank_m rnew_m same_m
attribute [local irreducible] number_m value_m fill_m beginning_m log_m fits_m lists_m epoch_m
attribute [local irreducible] home_m putall_m
attribute [local irreducible] putfl_m
attribute [local irreducible] wpList Oper.wp
def rise_m_b0 (d : Dk) (l : List Wr) (rec : Int × Nat → Sum (Int × Nat) (Bool)) (x8 : Int) (x9 : Nat) : Sum (Int × Nat) (Bool) :=
 if x9 < l.length then
  if (l.getD x9 dWr).at_ ≤ x8 then
   .inr false
  else
   if (((d.safe.length : Nat) : Int) - (log_m d)) ≤ (l.getD x9 dWr).at_ then
    .inr false
   else
    rec ((l.getD x9 dWr).at_, (x9 + 1))
 else
  .inl (x8, x9)
def rise_m_l0 (d : Dk) (l : List Wr) : Nat → Int × Nat → Sum (Int × Nat) (Bool)
 | 0, zz => .inl zz
 | nq + 1, zz => rise_m_b0 d l (rise_m_l0 d l nq) zz.1 zz.2
def rise_m_k0 (d : Dk) (l : List Wr) (y13 : Int) (y14 : Nat) : Bool :=
 true
def rise_m (d : Dk) (l : List Wr) : Bool :=
 fin (rise_m_l0 d l ((l.length - 0) + 1) (-1, 0)) (fun r => r) (fun zz => rise_m_k0 d l zz.1 zz.2)
theorem rise_any (d : Dk) (l : List Wr) (dv0 : Value) (dv1 : Value) (lv0 : Value) (w : World) (hd : DkR d dv0 dv1 w) (hl : Rs eWr 2 l lv0 w) (hp0 : d.safe.length ≤ 8796093022208) (hp1 : d.loose.length ≤ 5864070000000) (hp2 : l.length ≤ 5864070000000) : Calls Tryd.prog 44 #[.agg #[dv0, dv1, J (d.fuse), .bool (d.down)], lv0] w (fun e w' => e = .returned (.bool ((rise_m d l))) ∧ Below w.heap.size w w') := by
 go_enter Tryd.func44, Tryd.ntmps44
 have hm00 := Mm.nil none (fun _ => True) w
 obtain ⟨Fd, hm01⟩ : ∃ Fd, Mm none (fun _ => True) w w [.see (DkR d dv0 dv1) Fd] := hm00.come (DkR_all hd)
 obtain ⟨Fl, hm02⟩ : ∃ Fl, Mm none (fun _ => True) w w [.see (DkR d dv0 dv1) Fd, .see (Rs eWr 2 l lv0) Fl] := hm01.come (Rs.all hl)
 have hm0 := hm02
 refine wk (fun K1 hK1 => (wq ?_))
 refine lst rfl (m_alloc (c := #[dv0, dv1, J (d.fuse), .bool (d.down)]) (T := 25) hm0 2 rfl (run_box rfl rfl) (fun g4 w2 hm3 => ?_))
 simp only [nz]
 refine la 4 (.bool false) ?_
 simp only [nz]
 refine wn (tj (hK1 _ _ (wk (fun K5 hK5 => (wq ?_)))))
 refine la 5 (J (-1)) ?_
 simp only [nz]
 refine wn (tj (hK5 _ _ (wk (fun K6 hK6 => (wk (fun K7 hK7 => (wq ?_)))))))
 refine lm 8 (lv0) ?_
 refine lw 9 (J (l.length : Int)) (s_len ((hm3.see 1 rfl)) rfl Tryd.underlying23 rfl) ?_
 refine lm 10 (J 0) ?_
 simp only [nz]
 refine wn (tj (hK7 _ _ ?_))
 refine wp_cutK (fun a' w' => ∃ (y13 : Int) (y14 : Nat) (yu0 : Nat → Value), rise_m_l0 d l ((l.length - 0) + 1) (-1, 0) = .inl (y13, y14) ∧ (True) ∧ a' = ⟨#[.agg #[dv0, dv1, J (d.fuse), .bool (d.down)], lv0, Pp g4 0, undef, yu0 0, J (y13), undef, yu0 1, lv0, J (l.length : Int), J (y14 : Int), yu0 2, yu0 3, yu0 4, yu0 5, yu0 6, yu0 7, yu0 8, yu0 9, yu0 10, yu0 11, yu0 12, yu0 13, yu0 14, yu0 15, yu0 16, yu0 17, yu0 18, yu0 19, yu0 20, yu0 21, yu0 22], []⟩ ∧ Mm none (fun _ => True) w w' [.see (DkR d dv0 dv1) Fd, .see (Rs eWr 2 l lv0) Fl, .blk g4 #[dv0, dv1, J (d.fuse), .bool (d.down)] 25]) ?_ ?_
 ·refine wp_block ?_
  refine wp_loop_n (fun n' a' w' => ∃ (n10 : Nat) (x8 : Int) (x9 : Nat) (u0 : Nat → Value), n' = n10 ∧ (l.length - x9) < n10 ∧ rise_m_l0 d l ((l.length - 0) + 1) (-1, 0) = rise_m_l0 d l n10 (x8, x9) ∧ (True) ∧ a' = ⟨#[.agg #[dv0, dv1, J (d.fuse), .bool (d.down)], lv0, Pp g4 0, undef, u0 0, J (x8), undef, u0 1, lv0, J (l.length : Int), J (x9 : Int), u0 2, u0 3, u0 4, u0 5, u0 6, u0 7, u0 8, u0 9, u0 10, u0 11, u0 12, u0 13, u0 14, u0 15, u0 16, u0 17, u0 18, u0 19, u0 20, u0 21, u0 22], []⟩ ∧ Mm none (fun _ => True) w w' [.see (DkR d dv0 dv1) Fd, .see (Rs eWr 2 l lv0) Fl, .blk g4 #[dv0, dv1, J (d.fuse), .bool (d.down)] 25]) ⟨((l.length - 0) + 1), -1, 0, (fun qq => List.getD [.bool false, undef, undef, undef, undef, undef, undef, undef, undef, undef, undef, undef, undef, undef, undef, undef, undef, undef, undef, undef, undef, undef, undef] qq undef), rfl, Nat.lt_succ_self _, rfl, trivial, rfl, hm3⟩ ?_
  rintro n10 _ w16 ⟨_, x8, x9, u0, rfl, hl20, hi12, hri, rfl, hm17⟩ R18 hR18
  obtain ⟨k11, rfl⟩ : ∃ k, n10 = k + 1 := ⟨n10 - 1, by omega⟩
  refine wk (fun K21 hK21 => (wq ?_))
  refine lw 11 (.bool (decide (x9 < l.length))) (r_lss x9 l.length rfl rfl rfl) ?_
  simp only [nz]
  refine wn (tj (hK21 _ _ (wk (fun K22 hK22 => ?_))))
  refine cond_d (x9 < l.length) rfl (fun hc23 => ?_) (fun hc23 => ?_)
  rotate_left
  ·refine wp_exit (then_x (then_x (blk_x ?_)))
   refine tj ?_
   exact ⟨x8, x9, (fun qq => List.getD [u0 0, u0 1, .bool (decide (x9 < l.length)), u0 3, u0 4, u0 5, u0 6, u0 7, u0 8, u0 9, u0 10, u0 11, u0 12, u0 13, u0 14, u0 15, u0 16, u0 17, u0 18, u0 19, u0 20, u0 21, u0 22] qq undef), (hi12.trans (show rise_m_b0 d l (rise_m_l0 d l k11) x8 x9 = .inl (x8, x9) from by unfold rise_m_b0; rw [if_neg hc23] <;> rfl)), trivial, rfl, hm17⟩
  refine wp_skip (tj (hK22 _ _ (wk (fun K24 hK24 => ?_))))
  refine wp_block ?_
  refine wk (fun K25 hK25 => (wq ?_))
  refine lw 12 (.pointer (some ⟨(bk lv0), (po lv0 + x9 * 2), none⟩)) (r_ixv ((hm17.see 1 rfl)) x9 (by omega) Tryd.underlying23 sz_51 rfl rfl rfl) ?_
  refine lw 13 (.agg #[J ((l.getD x9 dWr).at_), .string (tx ((l.getD x9 dWr).data))]) (r_partw (fun j u hj => Rs.cell ((hm17.see 1 rfl)) eWr_len dWr x9 (by omega) j u (arr_get hj)) Tryd.underlying51 rfl (by exact sz_51) rfl rfl) ?_
  simp only [nz]
  refine lst rfl (m_alloc (c := #[J 0, .string (tx ([]))]) (T := 51) hm17 7 rfl (by unfold execOp; go_simp; try rfl) (fun g28 w26 hm27 => ?_))
  simp only [nz]
  refine lst rfl (m_store 3 51 _ _ 0 (.agg #[J ((l.getD x9 dWr).at_), .string (tx ((l.getD x9 dWr).data))]) (old := #[J 0, .string (tx ([]))]) (new := #[J ((l.getD x9 dWr).at_), .string (tx ((l.getD x9 dWr).data))]) hm27 rfl rfl rfl rfl rfl (by exact sz_51) (show 0 + 2 ≤ 2 from by decide) (by simp [Value.cells, Value.oneCell']) rfl (fun w29 hm30 => ?_))
  refine wn (tj (hK25 _ _ (wk (fun K31 hK31 => (wk (fun K32 hK32 => ?_))))))
  have hm33 := hm30.drew
  refine wp_region_held_drew (S := fun w' => Mem.Blk w' g28 (#[J ((l.getD x9 dWr).at_), .string (tx ((l.getD x9 dWr).data))]) 51 ∧ Mem.Blk w' g4 (#[dv0, dv1, J (d.fuse), .bool (d.down)]) 25) (by kernel_rfl) (⟨hm33.at 3 rfl, hm33.at 2 rfl⟩) (fun _ => ?_)
  generalize w29.drew = w34 at *
  refine tk 0 14 (Pp g28 0) rfl rfl (fun _ hw => r_fa51_0 g28 0 rfl rfl) (⟨hm33.at 3 rfl, hm33.at 2 rfl⟩) ?_
  simp only [nz]
  refine tk 1 15 (J ((l.getD x9 dWr).at_)) rfl rfl (fun _ hw => r_load hw.1 rfl Tryd.underlying3 rfl rfl rfl) (⟨hm33.at 3 rfl, hm33.at 2 rfl⟩) ?_
  simp only [nz]
  refine tk 2 16 (J (x8)) rfl rfl (fun _ hw => run_mv rfl rfl) (⟨hm33.at 3 rfl, hm33.at 2 rfl⟩) ?_
  simp only [nz]
  refine tkb 3 17 ((l.getD x9 dWr).at_ ≤ x8) rfl rfl rfl (fun _ hw => z_leq ((l.getD x9 dWr).at_) x8 rfl rfl rfl) (⟨hm33.at 3 rfl, hm33.at 2 rfl⟩) (fun hs35 => ?_) (fun hs35 => ?_)
  ·simp only [nz]
   refine tk 4 18 (.bool true) rfl rfl (fun _ hw => run_mv rfl rfl) (⟨hm33.at 3 rfl, hm33.at 2 rfl⟩) ?_
   simp only [nz]
   refine skx 5 19 rfl rfl rfl (⟨hm33.at 3 rfl, hm33.at 2 rfl⟩) ?_
   simp only [nz]
   refine skx 6 20 rfl rfl rfl (⟨hm33.at 3 rfl, hm33.at 2 rfl⟩) ?_
   simp only [nz]
   refine skx 7 21 rfl rfl rfl (⟨hm33.at 3 rfl, hm33.at 2 rfl⟩) ?_
   simp only [nz]
   refine skx 8 22 rfl rfl rfl (⟨hm33.at 3 rfl, hm33.at 2 rfl⟩) ?_
   simp only [nz]
   refine skx 9 23 rfl rfl rfl (⟨hm33.at 3 rfl, hm33.at 2 rfl⟩) ?_
   simp only [nz]
   refine skx 10 24 rfl rfl rfl (⟨hm33.at 3 rfl, hm33.at 2 rfl⟩) ?_
   simp only [nz]
   refine skx 11 25 rfl rfl rfl (⟨hm33.at 3 rfl, hm33.at 2 rfl⟩) ?_
   simp only [nz]
   refine skx 12 26 rfl rfl rfl (⟨hm33.at 3 rfl, hm33.at 2 rfl⟩) ?_
   simp only [nz]
   refine skx 13 27 rfl rfl rfl (⟨hm33.at 3 rfl, hm33.at 2 rfl⟩) ?_
   simp only [nz]
   refine tk 14 28 (.bool true) rfl rfl (fun _ hw => run_pick rfl rfl rfl) (⟨hm33.at 3 rfl, hm33.at 2 rfl⟩) ?_
   simp only [nz]
   refine wpAnyH_done (by kernel_rfl) ?_ _
   refine tj (hK32 _ _ ?_)
   refine cond_t rfl ?_
   refine wk (fun K36 hK36 => (wq ?_))
   refine la 4 (.bool false) ?_
   simp only [nz]
   refine wn (tj (hK36 _ _ (wp_ret (then_r (blk_r (then_r (then_r (blk_r (then_r (then_r ?_))))))))))
   have he37 : rise_m_l0 d l ((l.length - 0) + 1) (-1, 0) = .inr false := (hi12.trans (show rise_m_b0 d l (rise_m_l0 d l k11) x8 x9 = .inr false from by unfold rise_m_b0; rw [if_pos hc23, if_pos hs35] <;> rfl))
   have he38 : rise_m d l = false := by unfold rise_m; rw [he37] <;> rfl
   exact ⟨rfl, .bool false, res_t rfl rfl, ⟨by (rw [he38]; try rfl), hm33.below⟩⟩
  simp only [nz]
  refine tk 4 18 (.bool false) rfl rfl (fun _ hw => run_mv rfl rfl) (⟨hm33.at 3 rfl, hm33.at 2 rfl⟩) ?_
  simp only [nz]
  refine Sym.take_at 5 19 (Pp g28 0) rfl rfl (by kernel_rfl) (by kernel_rfl) (by kernel_rfl) (fun _ _ _ h => h) rfl (fun _ hw => r_fa51_0 g28 0 rfl rfl) (⟨hm33.at 3 rfl, hm33.at 2 rfl⟩) ?_
  simp only [nz]
  refine Sym.take_at 6 20 (J ((l.getD x9 dWr).at_)) rfl rfl (by kernel_rfl) (by kernel_rfl) (by kernel_rfl) (fun _ _ _ h => h) rfl (fun _ hw => r_load hw.1 rfl Tryd.underlying3 rfl rfl rfl) (⟨hm33.at 3 rfl, hm33.at 2 rfl⟩) ?_
  simp only [nz]
  refine Sym.take_at 7 21 (Pp g4 0) rfl rfl (by kernel_rfl) (by kernel_rfl) (by kernel_rfl) (fun _ _ _ h => h) rfl (fun _ hw => r_fa25_0 g4 0 rfl rfl) (⟨hm33.at 3 rfl, hm33.at 2 rfl⟩) ?_
  simp only [nz]
  refine Sym.take_at 8 22 (dv0) rfl rfl (by kernel_rfl) (by kernel_rfl) (by kernel_rfl) (fun _ _ _ h => h) rfl (fun _ hw => r_load hw.2 rfl Tryd.underlying22 rfl rfl rfl) (⟨hm33.at 3 rfl, hm33.at 2 rfl⟩) ?_
  simp only [nz]
  refine Sym.take_at 9 23 (J (d.safe.length : Int)) rfl rfl (by kernel_rfl) (by kernel_rfl) (by kernel_rfl) (fun _ _ _ h => h) rfl (fun _ hw => s_len ((hm33.see 0 rfl).1) rfl Tryd.underlying22 rfl) (⟨hm33.at 3 rfl, hm33.at 2 rfl⟩) ?_
  simp only [nz]
  refine Sym.take_at 10 24 (.agg #[dv0, dv1, J (d.fuse), .bool (d.down)]) rfl rfl (by kernel_rfl) (by kernel_rfl) (by kernel_rfl) (fun _ _ _ h => h) rfl (fun _ hw => r_whole hw.2 Tryd.underlying25 rfl (by exact sz_25) rfl rfl) (⟨hm33.at 3 rfl, hm33.at 2 rfl⟩) ?_
  simp only [nz]
  refine one_ready 11 (by kernel_rfl) ?_
  refine opd rfl rfl (m_call hm33 25 (J ((log_m d))) rfl (run_log rfl rfl) (log_any d dv0 dv1 _ (hm33.see 0 rfl) (by omega) (by omega)) (fun w39 hm40 => ?_))
  have hf41 : (log_m d) = (((d.safe.length / 4 : Nat)) : Int) := log_is d
  refine ⟨⟨hm40.at 3 rfl, hm40.at 2 rfl⟩, ?_⟩
  simp only [nz]
  refine Sym.take_at 12 26 (J (((d.safe.length : Int) - (log_m d)))) rfl rfl (by kernel_rfl) (by kernel_rfl) (by kernel_rfl) (fun _ _ _ h => h) rfl (fun _ hw => z_sub (d.safe.length : Int) (log_m d) _ (by rw [IntKind.wrap_i64]; omega) rfl rfl rfl) (⟨hm40.at 3 rfl, hm40.at 2 rfl⟩) ?_
  simp only [nz]
  refine Sym.take_at 13 27 (.bool (decide (((d.safe.length : Int) - (log_m d)) ≤ (l.getD x9 dWr).at_))) rfl rfl (by kernel_rfl) (by kernel_rfl) (by kernel_rfl) (fun _ _ _ h => h) rfl (fun _ hw => z_geq ((l.getD x9 dWr).at_) ((d.safe.length : Int) - (log_m d)) rfl rfl rfl) (⟨hm40.at 3 rfl, hm40.at 2 rfl⟩) ?_
  simp only [nz]
  refine tk 14 28 (.bool (decide (((d.safe.length : Int) - (log_m d)) ≤ (l.getD x9 dWr).at_))) rfl rfl (fun _ hw => run_pickf rfl rfl rfl) (⟨hm40.at 3 rfl, hm40.at 2 rfl⟩) ?_
  simp only [nz]
  refine wpAnyH_done (by kernel_rfl) ?_ _
  refine tj (hK32 _ _ ?_)
  refine cond_d (((d.safe.length : Int) - (log_m d)) ≤ (l.getD x9 dWr).at_) rfl (fun hc42 => ?_) (fun hc42 => ?_)
  ·refine wk (fun K43 hK43 => (wq ?_))
   refine la 4 (.bool false) ?_
   simp only [nz]
   refine wn (tj (hK43 _ _ (wp_ret (then_r (blk_r (then_r (then_r (blk_r (then_r (then_r ?_))))))))))
   have he44 : rise_m_l0 d l ((l.length - 0) + 1) (-1, 0) = .inr false := (hi12.trans (show rise_m_b0 d l (rise_m_l0 d l k11) x8 x9 = .inr false from by unfold rise_m_b0; rw [if_pos hc23, if_neg hs35, if_pos hc42] <;> rfl))
   have he45 : rise_m d l = false := by unfold rise_m; rw [he44] <;> rfl
   exact ⟨rfl, .bool false, res_t rfl rfl, ⟨by (rw [he45]; try rfl), hm40.below⟩⟩
  refine wp_skip (tj (hK31 _ _ (wq ?_)))
  refine lw 29 (Pp g28 0) (r_fa51_0 g28 0 rfl rfl) ?_
  refine lw 30 (J ((l.getD x9 dWr).at_)) (r_load (hm40.at 3 rfl) rfl Tryd.underlying3 rfl rfl rfl) ?_
  refine la 5 (J ((l.getD x9 dWr).at_)) ?_
  simp only [nz]
  refine wn (blk_n (tj (hK24 _ _ (wq ?_))))
  refine lw 31 (J (((x9 + 1) : Nat) : Int)) (r_add x9 1 (show (x9 + 1) < 9223372036854775808 from by omega) rfl rfl rfl) ?_
  refine lm 10 (J (((x9 + 1) : Nat) : Int)) ?_
  simp only [nz]
  refine wn ?_
  refine tj (hR18 _ _ _ ⟨k11, (l.getD x9 dWr).at_, (x9 + 1), (fun qq => List.getD [u0 0, Pp g28 0, .bool (decide (x9 < l.length)), .pointer (some ⟨(bk lv0), (po lv0 + x9 * 2), none⟩), .agg #[J ((l.getD x9 dWr).at_), .string (tx ((l.getD x9 dWr).data))], Pp g28 0, J ((l.getD x9 dWr).at_), J (x8), .bool false, .bool false, Pp g28 0, J ((l.getD x9 dWr).at_), Pp g4 0, dv0, J (d.safe.length : Int), .agg #[dv0, dv1, J (d.fuse), .bool (d.down)], J ((log_m d)), J (((d.safe.length : Int) - (log_m d))), .bool (decide (((d.safe.length : Int) - (log_m d)) ≤ (l.getD x9 dWr).at_)), .bool (decide (((d.safe.length : Int) - (log_m d)) ≤ (l.getD x9 dWr).at_)), Pp g28 0, J ((l.getD x9 dWr).at_), J (((x9 + 1) : Nat) : Int)] qq undef), rfl, (by omega), (hi12.trans (show rise_m_b0 d l (rise_m_l0 d l k11) x8 x9 = rise_m_l0 d l k11 ((l.getD x9 dWr).at_, (x9 + 1)) from by unfold rise_m_b0; rw [if_pos hc23, if_neg hs35, if_neg hc42] <;> rfl)), trivial, rfl, (Mm.reorder hm40 [0, 1, 2] (by decide) rfl)⟩ ?_)
  omega
 rintro _ w46 ⟨y13, y14, yu0, hx15, hri, rfl, hm47⟩
 have hq48 : rise_m d l = rise_m_k0 d l y13 y14 := (show rise_m d l = rise_m_k0 d l y13 y14 from by unfold rise_m; rw [hx15] <;> rfl)
 refine tj (hK6 _ _ (wk (fun K49 hK49 => (wq ?_))))
 refine la 4 (.bool true) ?_
 simp only [nz]
 refine wn (tj (hK49 _ _ (wp_ret ?_)))
 have he50 : rise_m d l = true := (hq48.trans (show rise_m_k0 d l y13 y14 = true from by unfold rise_m_k0; rfl))
 exact ⟨rfl, .bool true, res_t rfl rfl, ⟨by (rw [he50]; try rfl), hm47.below⟩⟩
theorem run_rise {o : Oper} {a : Act} {w : World} {x0 x1 : Operand} {v0 v1 : Value} (ho : o.op = .call { callee := .value (.func 44), args := #[x0, x1], argTypes := #[25, 23] }) (h0 : a.eval x0 = v0) (h1 : a.eval x1 = v1) :
  (execOp a.eval o).run Tryd.prog w = .ok (.enter 44 #[v0, v1]) w := by
 unfold execOp
 simp only [ho]
 have hf : a.eval (.func 44) = .func (.func 44) #[] #[] := rfl
 generalize a.eval = f at *
 go_simp
def sized_m_b0 (l : List Wr) (rec : Nat → Sum (Nat) (Bool)) (x4 : Nat) : Sum (Nat) (Bool) :=
 if x4 < l.length then
  if ¬ ((l.getD x4 dWr).data).length = 256 then
   .inr false
  else
   rec (x4 + 1)
 else
  .inl x4
def sized_m_l0 (l : List Wr) : Nat → Nat → Sum (Nat) (Bool)
 | 0, zz => .inl zz
 | nq + 1, zz => sized_m_b0 l (sized_m_l0 l nq) zz
def sized_m_k0 (l : List Wr) (y8 : Nat) : Bool :=
 true
def sized_m (l : List Wr) : Bool :=
 fin (sized_m_l0 l ((l.length - 0) + 1) 0) (fun r => r) (fun zz => sized_m_k0 l zz)
theorem sized_any (l : List Wr) (lv0 : Value) (w : World) (hl : Rs eWr 2 l lv0 w) (hp0 : l.length ≤ 5864070000000) : Calls Tryd.prog 45 #[lv0] w (fun e w' => e = .returned (.bool ((sized_m l))) ∧ Below w.heap.size w w') := by
 go_enter Tryd.func45, Tryd.ntmps45
 have hm00 := Mm.nil none (fun _ => True) w
 obtain ⟨Fl, hm01⟩ : ∃ Fl, Mm none (fun _ => True) w w [.see (Rs eWr 2 l lv0) Fl] := hm00.come (Rs.all hl)
 have hm0 := hm01
 refine wk (fun K1 hK1 => (wq ?_))
 refine la 2 (.bool false) ?_
 simp only [nz]
 refine wn (tj (hK1 _ _ (wk (fun K2 hK2 => (wk (fun K3 hK3 => (wq ?_)))))))
 refine lm 5 (lv0) ?_
 refine lw 6 (J (l.length : Int)) (s_len ((hm0.see 0 rfl)) rfl Tryd.underlying23 rfl) ?_
 refine lm 7 (J 0) ?_
 simp only [nz]
 refine wn (tj (hK3 _ _ ?_))
 refine wp_cutK (fun a' w' => ∃ (y8 : Nat) (yu0 : Nat → Value), sized_m_l0 l ((l.length - 0) + 1) 0 = .inl y8 ∧ a' = ⟨#[lv0, undef, yu0 0, undef, yu0 1, lv0, J (l.length : Int), J (y8 : Int), yu0 2, yu0 3, yu0 4, yu0 5, yu0 6, yu0 7, yu0 8, yu0 9], []⟩ ∧ Mm none (fun _ => True) w w' [.see (Rs eWr 2 l lv0) Fl]) ?_ ?_
 ·refine wp_block ?_
  refine wp_loop_n (fun n' a' w' => ∃ (n5 : Nat) (x4 : Nat) (u0 : Nat → Value), n' = n5 ∧ (l.length - x4) < n5 ∧ sized_m_l0 l ((l.length - 0) + 1) 0 = sized_m_l0 l n5 x4 ∧ a' = ⟨#[lv0, undef, u0 0, undef, u0 1, lv0, J (l.length : Int), J (x4 : Int), u0 2, u0 3, u0 4, u0 5, u0 6, u0 7, u0 8, u0 9], []⟩ ∧ Mm none (fun _ => True) w w' [.see (Rs eWr 2 l lv0) Fl]) ⟨((l.length - 0) + 1), 0, (fun qq => List.getD [.bool false, undef, undef, undef, undef, undef, undef, undef, undef, undef] qq undef), rfl, Nat.lt_succ_self _, rfl, rfl, hm0⟩ ?_
  rintro n5 _ w10 ⟨_, x4, u0, rfl, hl14, hi7, rfl, hm11⟩ R12 hR12
  obtain ⟨k6, rfl⟩ : ∃ k, n5 = k + 1 := ⟨n5 - 1, by omega⟩
  refine wk (fun K15 hK15 => (wq ?_))
  refine lw 8 (.bool (decide (x4 < l.length))) (r_lss x4 l.length rfl rfl rfl) ?_
  simp only [nz]
  refine wn (tj (hK15 _ _ (wk (fun K16 hK16 => ?_))))
  refine cond_d (x4 < l.length) rfl (fun hc17 => ?_) (fun hc17 => ?_)
  rotate_left
  ·refine wp_exit (then_x (then_x (blk_x ?_)))
   refine tj ?_
   exact ⟨x4, (fun qq => List.getD [u0 0, u0 1, .bool (decide (x4 < l.length)), u0 3, u0 4, u0 5, u0 6, u0 7, u0 8, u0 9] qq undef), (hi7.trans (show sized_m_b0 l (sized_m_l0 l k6) x4 = .inl x4 from by unfold sized_m_b0; rw [if_neg hc17] <;> rfl)), rfl, hm11⟩
  refine wp_skip (tj (hK16 _ _ (wk (fun K18 hK18 => ?_))))
  refine wp_block ?_
  refine wk (fun K19 hK19 => (wq ?_))
  refine lw 9 (.pointer (some ⟨(bk lv0), (po lv0 + x4 * 2), none⟩)) (r_ixv ((hm11.see 0 rfl)) x4 (by omega) Tryd.underlying23 sz_51 rfl rfl rfl) ?_
  refine lw 10 (.agg #[J ((l.getD x4 dWr).at_), .string (tx ((l.getD x4 dWr).data))]) (r_partw (fun j u hj => Rs.cell ((hm11.see 0 rfl)) eWr_len dWr x4 (by omega) j u (arr_get hj)) Tryd.underlying51 rfl (by exact sz_51) rfl rfl) ?_
  simp only [nz]
  refine lst rfl (m_alloc (c := #[J 0, .string (tx ([]))]) (T := 51) hm11 4 rfl (by unfold execOp; go_simp; try rfl) (fun g22 w20 hm21 => ?_))
  simp only [nz]
  refine lst rfl (m_store 1 51 _ _ 0 (.agg #[J ((l.getD x4 dWr).at_), .string (tx ((l.getD x4 dWr).data))]) (old := #[J 0, .string (tx ([]))]) (new := #[J ((l.getD x4 dWr).at_), .string (tx ((l.getD x4 dWr).data))]) hm21 rfl rfl rfl rfl rfl (by exact sz_51) (show 0 + 2 ≤ 2 from by decide) (by simp [Value.cells, Value.oneCell']) rfl (fun w23 hm24 => ?_))
  refine wn (tj (hK19 _ _ (wk (fun K25 hK25 => (wq ?_)))))
  refine lw 11 (Pp g22 1) (r_fa51_1 g22 0 rfl rfl) ?_
  refine lw 12 (.string (tx ((l.getD x4 dWr).data))) (r_load (hm24.at 1 rfl) rfl Tryd.underlying9 rfl rfl rfl) ?_
  refine lw 13 (J ((((l.getD x4 dWr).data).length : Nat) : Int)) (t_len rfl Tryd.underlying9 rfl) ?_
  simp only [nz]
  refine lw 14 (.bool (decide (¬ ((l.getD x4 dWr).data).length = 256))) (r_neq (((l.getD x4 dWr).data).length) 256 rfl rfl rfl) ?_
  simp only [nz]
  refine wn (tj (hK25 _ _ ?_))
  refine cond_d (¬ ((l.getD x4 dWr).data).length = 256) rfl (fun hc26 => ?_) (fun hc26 => ?_)
  rotate_left
  ·refine wp_skip (blk_n (tj (hK18 _ _ (wq ?_))))
   refine lw 15 (J (((x4 + 1) : Nat) : Int)) (r_add x4 1 (show (x4 + 1) < 9223372036854775808 from by omega) rfl rfl rfl) ?_
   refine lm 7 (J (((x4 + 1) : Nat) : Int)) ?_
   simp only [nz]
   refine wn ?_
   refine tj (hR12 _ _ _ ⟨k6, (x4 + 1), (fun qq => List.getD [u0 0, Pp g22 0, .bool (decide (x4 < l.length)), .pointer (some ⟨(bk lv0), (po lv0 + x4 * 2), none⟩), .agg #[J ((l.getD x4 dWr).at_), .string (tx ((l.getD x4 dWr).data))], Pp g22 1, .string (tx ((l.getD x4 dWr).data)), J ((((l.getD x4 dWr).data).length : Nat) : Int), .bool (decide (¬ ((l.getD x4 dWr).data).length = 256)), J (((x4 + 1) : Nat) : Int)] qq undef), rfl, (by omega), (hi7.trans (show sized_m_b0 l (sized_m_l0 l k6) x4 = sized_m_l0 l k6 (x4 + 1) from by unfold sized_m_b0; rw [if_pos hc17, if_neg hc26] <;> rfl)), rfl, (Mm.reorder hm24 [0] (by decide) rfl)⟩ ?_)
   omega
  refine wk (fun K27 hK27 => (wq ?_))
  refine la 2 (.bool false) ?_
  simp only [nz]
  refine wn (tj (hK27 _ _ (wp_ret (blk_r (then_r (then_r (blk_r (then_r (then_r ?_)))))))))
  have he28 : sized_m_l0 l ((l.length - 0) + 1) 0 = .inr false := (hi7.trans (show sized_m_b0 l (sized_m_l0 l k6) x4 = .inr false from by unfold sized_m_b0; rw [if_pos hc17, if_pos hc26] <;> rfl))
  have he29 : sized_m l = false := by unfold sized_m; rw [he28] <;> rfl
  exact ⟨rfl, .bool false, res_t rfl rfl, ⟨by (rw [he29]; try rfl), hm24.below⟩⟩
 rintro _ w30 ⟨y8, yu0, hx9, rfl, hm31⟩
 have hq32 : sized_m l = sized_m_k0 l y8 := (show sized_m l = sized_m_k0 l y8 from by unfold sized_m; rw [hx9] <;> rfl)
 refine tj (hK2 _ _ (wk (fun K33 hK33 => (wq ?_))))
 refine la 2 (.bool true) ?_
 simp only [nz]
 refine wn (tj (hK33 _ _ (wp_ret ?_)))
 have he34 : sized_m l = true := (hq32.trans (show sized_m_k0 l y8 = true from by unfold sized_m_k0; rfl))
 exact ⟨rfl, .bool true, res_t rfl rfl, ⟨by (rw [he34]; try rfl), hm31.below⟩⟩
theorem run_sized {o : Oper} {a : Act} {w : World} {x0 : Operand} {v0 : Value} (ho : o.op = .call { callee := .value (.func 45), args := #[x0], argTypes := #[23] }) (h0 : a.eval x0 = v0) :
  (execOp a.eval o).run Tryd.prog w = .ok (.enter 45 #[v0]) w := by
 unfold execOp
 simp only [ho]
 have hf : a.eval (.func 45) = .func (.func 45) #[] #[] := rfl
 generalize a.eval = f at *
 go_simp
def current_m (d : Dk) : Int × Int :=
 if d.down = true then
  (0, 11)
 else
  if (!((epoch_m d).2)) = true then
   (0, 20)
  else
   if 4611686018427387904 ≤ (epoch_m d).1 then
    (0, 20)
   else
    ((epoch_m d).1, 0)
theorem current_any (d : Dk) (dv0 : Value) (dv1 : Value) (w : World) (hd : DkR d dv0 dv1 w) (hp0 : d.safe.length ≤ 8796093022208) (hp1 : d.loose.length ≤ 5864070000000) : Calls Tryd.prog 46 #[.agg #[dv0, dv1, J (d.fuse), .bool (d.down)]] w (fun e w' => e = .returned (.tuple #[J ((current_m d).1), J ((current_m d).2)]) ∧ Below w.heap.size w w') := by
 go_enter Tryd.func46, Tryd.ntmps46
 have hm00 := Mm.nil none (fun _ => True) w
 obtain ⟨Fd, hm01⟩ : ∃ Fd, Mm none (fun _ => True) w w [.see (DkR d dv0 dv1) Fd] := hm00.come (DkR_all hd)
 have hm0 := hm01
 refine wk (fun K1 hK1 => (wq ?_))
 refine lst rfl (m_alloc (c := #[dv0, dv1, J (d.fuse), .bool (d.down)]) (T := 25) hm0 1 rfl (run_box rfl rfl) (fun g4 w2 hm3 => ?_))
 simp only [nz]
 refine la 2 (J 0) ?_
 refine la 3 (J 0) ?_
 simp only [nz]
 refine wn (tj (hK1 _ _ (wk (fun K5 hK5 => (wk (fun K6 hK6 => (wq ?_)))))))
 refine lw 6 (Pp g4 3) (r_fa25_3 g4 0 rfl rfl) ?_
 refine lw 7 (.bool (d.down)) (r_load (hm3.at 1 rfl) rfl Tryd.underlying4 rfl rfl rfl) ?_
 simp only [nz]
 refine wn (tj (hK6 _ _ ?_))
 refine cond_B d.down rfl (fun hc7 => ?_) (fun hc7 => ?_)
 ·refine wk (fun K8 hK8 => (wq ?_))
  refine la 2 (J 0) ?_
  refine la 3 (J 11) ?_
  simp only [nz]
  refine wn (tj (hK8 _ _ (wp_ret (then_r ?_))))
  have he9 : current_m d = (0, 11) := by unfold current_m; rw [if_pos hc7] <;> rfl
  exact ⟨rfl, .tuple #[J 0, J 11], res_tt rfl rfl rfl, ⟨by (rw [he9]; try rfl), hm3.below⟩⟩
 refine wp_skip (tj (hK5 _ _ (wk (fun K10 hK10 => (wq ?_)))))
 refine lw 9 (.agg #[dv0, dv1, J (d.fuse), .bool (d.down)]) (r_whole (hm3.at 1 rfl) Tryd.underlying25 rfl (by exact sz_25) rfl rfl) ?_
 simp only [nz]
 refine lst rfl (m_call hm3 10 (.tuple #[J ((epoch_m d).1), .bool ((epoch_m d).2)]) rfl (run_epoch rfl rfl) (epoch_any d dv0 dv1 _ (hm3.see 0 rfl) (by omega) (by omega)) (fun w11 hm12 => ?_))
 simp only [nz]
 refine lm 8 (.tuple #[J ((epoch_m d).1), .bool ((epoch_m d).2)]) ?_
 refine lw 11 (J ((epoch_m d).1)) (run_ex rfl rfl rfl) ?_
 refine lw 12 (.bool ((epoch_m d).2)) (run_ex rfl rfl rfl) ?_
 simp only [nz]
 refine la 4 (J ((epoch_m d).1)) ?_
 refine la 5 (.bool ((epoch_m d).2)) ?_
 simp only [nz]
 refine wn (tj (hK10 _ _ (wk (fun K13 hK13 => (wk (fun K14 hK14 => (wq ?_)))))))
 refine lm 13 (.bool ((epoch_m d).2)) ?_
 simp only [nz]
 refine lvB 14 (!((epoch_m d).2)) rfl rfl (r_not ((epoch_m d).2) rfl rfl) (fun hs15 => ?_) (fun hs15 => ?_)
 ·simp only [nz]
  refine lm 15 (.bool true) ?_
  simp only [nz]
  refine lst_skip 16 rfl rfl ?_
  simp only [nz]
  refine lst_skip 17 rfl rfl ?_
  simp only [nz]
  refine lw 18 (.bool true) (run_pick rfl rfl rfl) ?_
  simp only [nz]
  refine wn (tj (hK14 _ _ ?_))
  refine cond_t rfl ?_
  refine wk (fun K16 hK16 => (wq ?_))
  refine la 2 (J 0) ?_
  refine la 3 (J 20) ?_
  simp only [nz]
  refine wn (tj (hK16 _ _ (wp_ret (then_r ?_))))
  have he17 : current_m d = (0, 20) := by unfold current_m; rw [if_neg hc7, if_pos hs15] <;> rfl
  exact ⟨rfl, .tuple #[J 0, J 20], res_tt rfl rfl rfl, ⟨by (rw [he17]; try rfl), hm12.below⟩⟩
 simp only [nz]
 refine lm 15 (.bool false) ?_
 refine lm 16 (J ((epoch_m d).1)) ?_
 refine lw 17 (.bool (decide (4611686018427387904 ≤ (epoch_m d).1))) (z_geq ((epoch_m d).1) 4611686018427387904 rfl rfl rfl) ?_
 simp only [nz]
 refine lw 18 (.bool (decide (4611686018427387904 ≤ (epoch_m d).1))) (run_pickf rfl rfl rfl) ?_
 simp only [nz]
 refine wn (tj (hK14 _ _ ?_))
 refine cond_d (4611686018427387904 ≤ (epoch_m d).1) rfl (fun hc18 => ?_) (fun hc18 => ?_)
 ·refine wk (fun K19 hK19 => (wq ?_))
  refine la 2 (J 0) ?_
  refine la 3 (J 20) ?_
  simp only [nz]
  refine wn (tj (hK19 _ _ (wp_ret (then_r ?_))))
  have he20 : current_m d = (0, 20) := by unfold current_m; rw [if_neg hc7, if_neg hs15, if_pos hc18] <;> rfl
  exact ⟨rfl, .tuple #[J 0, J 20], res_tt rfl rfl rfl, ⟨by (rw [he20]; try rfl), hm12.below⟩⟩
 refine wp_skip (tj (hK13 _ _ (wk (fun K21 hK21 => (wq ?_)))))
 refine lm 19 (J ((epoch_m d).1)) ?_
 refine la 2 (J ((epoch_m d).1)) ?_
 refine la 3 (J 0) ?_
 simp only [nz]
 refine wn (tj (hK21 _ _ (wp_ret ?_)))
 have he22 : current_m d = ((epoch_m d).1, 0) := by unfold current_m; rw [if_neg hc7, if_neg hs15, if_neg hc18] <;> rfl
 exact ⟨rfl, .tuple #[J ((epoch_m d).1), J 0], res_tt rfl rfl rfl, ⟨by (rw [he22]; try rfl), hm12.below⟩⟩
theorem run_current {o : Oper} {a : Act} {w : World} {x0 : Operand} {v0 : Value} (ho : o.op = .call { callee := .value (.func 46), args := #[x0], argTypes := #[25] }) (h0 : a.eval x0 = v0) :
  (execOp a.eval o).run Tryd.prog w = .ok (.enter 46 #[v0]) w := by
 unfold execOp
 simp only [ho]
 have hf : a.eval (.func 46) = .func (.func 46) #[] #[] := rfl
 generalize a.eval = f at *
 go_simp
end Go.Proofs.YtnmaaijeamlplaaDoor.Bk
namespace Go.Proofs.YtnmaaijeamlplaaDoor.Bk
open Go.RowKit
open Go.Proofs.YtnmaaijeamlplaaDoor.Sym Go.Proofs.YtnmaaijeamlplaaDoor.Mem
open Go.Proofs.YtnmaaijeamlplaaDoor.Sx hiding Mm m_alloc m_store m_call m_callx
attribute [local irreducible] right_m rright_m ready_m rready_m copied_m burn_m put_m get_m flush_m spent_m rput_m rget_m rflush_m blank_m rnew_m same_m
attribute [local irreducible] number_m value_m fill_m beginning_m log_m fits_m lists_m epoch_m
attribute [local irreducible] home_m putall_m
attribute [local irreducible] wpList Oper.wp
abbrev QeF1 (l : List Wr) (x16 : Nat) (x37 : Nat) := (number_m ((((l.take (min (x16 + 61) l.length)).drop x16).getD x37 dWr).at_) 4)
def body_m_b1 (epoch : Int) (l : List Wr) (l14 : List (List UInt8)) (x16 : Nat) (rec : (List UInt8) × Nat → Sum ((List UInt8) × Nat) ((List (List UInt8)))) (x36 : List UInt8) (x37 : Nat) : Sum ((List UInt8) × Nat) ((List (List UInt8))) :=
 if x37 < ((l.take (min (x16 + 61) l.length)).drop x16).length then
  rec ((x36 ++ (QeF1 l x16 x37)), (x37 + 1))
 else
  .inl (x36, x37)
def body_m_l1 (epoch : Int) (l : List Wr) (l14 : List (List UInt8)) (x16 : Nat) : Nat → (List UInt8) × Nat → Sum ((List UInt8) × Nat) ((List (List UInt8)))
 | 0, zz => .inl zz
 | nq + 1, zz => body_m_b1 epoch l l14 x16 (body_m_l1 epoch l l14 x16 nq) zz.1 zz.2
def body_m_k1 (epoch : Int) (l : List Wr) (l14 : List (List UInt8)) (x16 : Nat) (rec : (List (List UInt8)) × Nat → Sum ((List (List UInt8)) × Nat) ((List (List UInt8)))) (y41 : List UInt8) (y42 : Nat) : Sum ((List (List UInt8)) × Nat) ((List (List UInt8))) :=
 rec ((l14 ++ [(fill_m y41)]), (x16 + 61))
def body_m_b0 (epoch : Int) (l : List Wr) (rec : (List (List UInt8)) × Nat → Sum ((List (List UInt8)) × Nat) ((List (List UInt8)))) (l14 : List (List UInt8)) (x16 : Nat) : Sum ((List (List UInt8)) × Nat) ((List (List UInt8))) :=
 if x16 < l.length then
  fin (body_m_l1 epoch l l14 x16 ((((l.take (min (x16 + 61) l.length)).drop x16).length - 0) + 1) (((number_m epoch 8) ++ (number_m ((l.length : Nat) : Int) 4)), 0)) .inr (fun zz => body_m_k1 epoch l l14 x16 rec zz.1 zz.2)
 else
  .inl (l14, x16)
def body_m_l0 (epoch : Int) (l : List Wr) : Nat → (List (List UInt8)) × Nat → Sum ((List (List UInt8)) × Nat) ((List (List UInt8)))
 | 0, zz => .inl zz
 | nq + 1, zz => body_m_b0 epoch l (body_m_l0 epoch l nq) zz.1 zz.2
def body_m_b2 (epoch : Int) (l : List Wr) (y20 : List (List UInt8)) (y22 : Nat) (rec : (List (List UInt8)) × Nat → Sum ((List (List UInt8)) × Nat) ((List (List UInt8)))) (l79 : List (List UInt8)) (x81 : Nat) : Sum ((List (List UInt8)) × Nat) ((List (List UInt8))) :=
 if x81 < l.length then
  rec ((l79 ++ [((l.getD x81 dWr).data)]), (x81 + 1))
 else
  .inl (l79, x81)
def body_m_l2 (epoch : Int) (l : List Wr) (y20 : List (List UInt8)) (y22 : Nat) : Nat → (List (List UInt8)) × Nat → Sum ((List (List UInt8)) × Nat) ((List (List UInt8)))
 | 0, zz => .inl zz
 | nq + 1, zz => body_m_b2 epoch l y20 y22 (body_m_l2 epoch l y20 y22 nq) zz.1 zz.2
def body_m_k2 (epoch : Int) (l : List Wr) (y20 : List (List UInt8)) (y22 : Nat) (y85 : List (List UInt8)) (y87 : Nat) : (List (List UInt8)) :=
 y85
def body_m_k0 (epoch : Int) (l : List Wr) (y20 : List (List UInt8)) (y22 : Nat) : (List (List UInt8)) :=
 fin (body_m_l2 epoch l y20 y22 ((l.length - 0) + 1) (y20, 0)) (fun r => r) (fun zz => body_m_k2 epoch l y20 y22 zz.1 zz.2)
def body_m (epoch : Int) (l : List Wr) : (List (List UInt8)) :=
 fin (body_m_l0 epoch l ((l.length - 0) + 1) (([] : List (List UInt8)), 0)) (fun r => r) (fun zz => body_m_k0 epoch l zz.1 zz.2)
theorem body_any (epoch : Int) (l : List Wr) (lv0 : Value) (w : World) (hl : Rs eWr 2 l lv0 w) (hp0 : l.length ≤ 1000000) : Calls Tryd.prog 47 #[J (epoch), lv0] w (fun e w' => (∃ v, e = .returned v ∧ ∃ o0 : Value, v = o0 ∧ w'.ownsRow w.heap.size 9 1 o0 (body_m epoch l).length ((body_m epoch l).flatMap eS)) ∧ Below w.heap.size w w') := by
 go_enter Tryd.func47, Tryd.ntmps47
 have hm00 := Mm.nil none (fun _ => True) w
 obtain ⟨Fl, hm01⟩ : ∃ Fl, Mm none (fun _ => True) w w [.see (Rs eWr 2 l lv0) Fl] := hm00.come (Rs.all hl)
 have hm0 := hm01
 refine wk (fun K1 hK1 => (wq ?_))
 refine la 4 (.slice none 0 0) ?_
 simp only [nz]
 refine wn (tj (hK1 _ _ (wk (fun K2 hK2 => (wq ?_)))))
 refine lm 13 (J (epoch)) ?_
 simp only [nz]
 refine lst rfl (m_call hm0 14 (.string (tx (number_m epoch 8))) rfl (run_number rfl rfl rfl) (number_any epoch 8  _  (by omega) (by omega)) (fun w3 hm4 => ?_))
 have hf5 : (((number_m epoch 8).length : Nat) : Int) = 8 := number_len epoch 8 (by omega) (by omega)
 simp only [nz]
 refine lm 15 (lv0) ?_
 refine lw 16 (J (l.length : Int)) (s_len ((hm4.see 0 rfl)) rfl Tryd.underlying23 rfl) ?_
 simp only [nz]
 refine lst rfl (m_call hm4 17 (.string (tx (number_m (l.length : Int) 4))) rfl (run_number rfl rfl rfl) (number_any (l.length : Int) 4  _  (by omega) (by omega)) (fun w6 hm7 => ?_))
 have hf8 : (((number_m ((l.length : Nat) : Int) 4).length : Nat) : Int) = 4 := number_len ((l.length : Nat) : Int) 4 (by omega) (by omega)
 simp only [nz]
 refine lw 18 (.string (tx ((number_m epoch 8) ++ (number_m (l.length : Int) 4)))) (t_cat (number_m epoch 8) (number_m (l.length : Int) 4) (by omega) rfl rfl rfl) ?_
 refine la 5 (.string (tx ((number_m epoch 8) ++ (number_m (l.length : Int) 4)))) ?_
 simp only [nz]
 refine wn (tj (hK2 _ _ (wk (fun K9 hK9 => (wq ?_)))))
 refine la 6 (.slice none 0 0) ?_
 simp only [nz]
 refine wn (tj (hK9 _ _ (wk (fun K10 hK10 => (wk (fun K11 hK11 => (wq ?_)))))))
 refine la 7 (J 0) ?_
 simp only [nz]
 refine wn (tj (hK11 _ _ ?_))
 have hm13 : Mm none (fun _ => True) w w6 [.see (Rs eWr 2 l lv0) Fl, .row (.slice none 0 0) ([] : List (List UInt8)).length (([] : List (List UInt8)).flatMap eS) 9 1] := hm7.nilrow 9 1
 refine wp_cutK (fun a' w' => ∃ (y20 : List (List UInt8)) (y22 : Nat) (v21 : Value) (yu0 : Nat → Value), body_m_l0 epoch l ((l.length - 0) + 1) (([] : List (List UInt8)), 0) = .inl (y20, y22) ∧ (y20.length ≤ y22 ∧ y22 ≤ l.length + 60) ∧ a' = ⟨#[J (epoch), lv0, undef, undef, .slice none 0 0, .string (tx ((number_m epoch 8) ++ (number_m (l.length : Int) 4))), v21, J (y22 : Int), yu0 0, undef, yu0 1, undef, undef, J (epoch), .string (tx (number_m epoch 8)), lv0, J (l.length : Int), .string (tx (number_m (l.length : Int) 4)), .string (tx ((number_m epoch 8) ++ (number_m (l.length : Int) 4))), yu0 2, yu0 3, yu0 4, yu0 5, yu0 6, yu0 7, yu0 8, yu0 9, yu0 10, yu0 11, yu0 12, yu0 13, yu0 14, yu0 15, yu0 16, yu0 17, yu0 18, yu0 19, yu0 20, yu0 21, yu0 22, yu0 23, yu0 24, yu0 25, yu0 26, yu0 27, yu0 28, yu0 29, yu0 30, yu0 31, yu0 32, undef, undef, undef, undef, undef, undef, undef, undef, undef, undef, undef, undef, undef], []⟩ ∧ Mm none (fun _ => True) w w' [.see (Rs eWr 2 l lv0) Fl, .row v21 y20.length (y20.flatMap eS) 9 1]) ?_ ?_
 ·refine wp_block ?_
  refine wp_loop_n (fun n' a' w' => ∃ (n17 : Nat) (l14 : List (List UInt8)) (x16 : Nat) (v15 : Value) (u0 : Nat → Value), n' = n17 ∧ (l.length - x16) < n17 ∧ body_m_l0 epoch l ((l.length - 0) + 1) (([] : List (List UInt8)), 0) = body_m_l0 epoch l n17 (l14, x16) ∧ (l14.length ≤ x16 ∧ x16 ≤ l.length + 60) ∧ a' = ⟨#[J (epoch), lv0, undef, undef, .slice none 0 0, .string (tx ((number_m epoch 8) ++ (number_m (l.length : Int) 4))), v15, J (x16 : Int), u0 0, undef, u0 1, undef, undef, J (epoch), .string (tx (number_m epoch 8)), lv0, J (l.length : Int), .string (tx (number_m (l.length : Int) 4)), .string (tx ((number_m epoch 8) ++ (number_m (l.length : Int) 4))), u0 2, u0 3, u0 4, u0 5, u0 6, u0 7, u0 8, u0 9, u0 10, u0 11, u0 12, u0 13, u0 14, u0 15, u0 16, u0 17, u0 18, u0 19, u0 20, u0 21, u0 22, u0 23, u0 24, u0 25, u0 26, u0 27, u0 28, u0 29, u0 30, u0 31, u0 32, undef, undef, undef, undef, undef, undef, undef, undef, undef, undef, undef, undef, undef], []⟩ ∧ Mm none (fun _ => True) w w' [.see (Rs eWr 2 l lv0) Fl, .row v15 l14.length (l14.flatMap eS) 9 1]) ⟨((l.length - 0) + 1), ([] : List (List UInt8)), 0, .slice none 0 0, (fun qq => bif Nat.blt qq 24 then List.getD [undef, undef, undef, undef, undef, undef, undef, undef, undef, undef, undef, undef, undef, undef, undef, undef, undef, undef, undef, undef, undef, undef, undef, undef] qq undef else List.getD [undef, undef, undef, undef, undef, undef, undef, undef, undef] (qq - 24) undef), rfl, Nat.lt_succ_self _, rfl, (by simp; done), rfl, hm13⟩ ?_
  rintro n17 _ w24 ⟨_, l14, x16, v15, u0, rfl, hl28, hi19, hbo, rfl, hm25⟩ R26 hR26
  obtain ⟨k18, rfl⟩ : ∃ k, n17 = k + 1 := ⟨n17 - 1, by omega⟩
  refine wk (fun K29 hK29 => (wk (fun K30 hK30 => (wq ?_))))
  refine lm 19 (J (x16 : Int)) ?_
  refine lm 20 (lv0) ?_
  refine lw 21 (J (l.length : Int)) (s_len ((hm25.see 0 rfl)) rfl Tryd.underlying23 rfl) ?_
  simp only [nz]
  refine lw 22 (.bool (decide (x16 < l.length))) (r_lss x16 l.length rfl rfl rfl) ?_
  simp only [nz]
  refine wn (tj (hK30 _ _ ?_))
  refine cond_d (x16 < l.length) rfl (fun hc31 => ?_) (fun hc31 => ?_)
  rotate_left
  ·refine wp_exit (then_x (then_x (blk_x ?_)))
   refine tj ?_
   exact ⟨l14, x16, v15, (fun qq => bif Nat.blt qq 24 then List.getD [u0 0, u0 1, J (x16 : Int), lv0, J (l.length : Int), .bool (decide (x16 < l.length)), u0 6, u0 7, u0 8, u0 9, u0 10, u0 11, u0 12, u0 13, u0 14, u0 15, u0 16, u0 17, u0 18, u0 19, u0 20, u0 21, u0 22, u0 23] qq undef else List.getD [u0 24, u0 25, u0 26, u0 27, u0 28, u0 29, u0 30, u0 31, u0 32] (qq - 24) undef), (hi19.trans (show body_m_b0 epoch l (body_m_l0 epoch l k18) l14 x16 = .inl (l14, x16) from by unfold body_m_b0; rw [if_neg hc31] <;> rfl)), (by omega), rfl, hm25⟩
  refine wp_skip (tj (hK29 _ _ (wk (fun K32 hK32 => ?_))))
  refine wp_block ?_
  refine wk (fun K33 hK33 => (wq ?_))
  refine lm 25 (.string (tx ((number_m epoch 8) ++ (number_m (l.length : Int) 4)))) ?_
  refine la 8 (.string (tx ((number_m epoch 8) ++ (number_m (l.length : Int) 4)))) ?_
  simp only [nz]
  refine wn (tj (hK33 _ _ (wk (fun K34 hK34 => (wk (fun K35 hK35 => (wq ?_)))))))
  refine lm 26 (lv0) ?_
  refine lm 27 (J (x16 : Int)) ?_
  refine lm 28 (J (x16 : Int)) ?_
  simp only [nz]
  refine lw 29 (J (((x16 + 61) : Nat) : Int)) (r_add x16 61 (show (x16 + 61) < 9223372036854775808 from by omega) rfl rfl rfl) ?_
  refine lm 30 (lv0) ?_
  refine lw 31 (J (l.length : Int)) (s_len ((hm25.see 0 rfl)) rfl Tryd.underlying23 rfl) ?_
  simp only [nz]
  refine lw 32 (J (((min (x16 + 61) l.length) : Nat) : Int)) (r_minN (k := .i64) (x16 + 61) l.length Tryd.underlying3 rfl rfl rfl) ?_
  refine lw 33 ((cutV lv0 x16 (min (x16 + 61) l.length) 2)) (r_cut_lh ((hm25.see 0 rfl)) x16 (min (x16 + 61) l.length) (by omega) (by omega) Tryd.underlying23 sz_51 rfl rfl rfl rfl) ?_
  refine lw 34 (J ((((l.take (min (x16 + 61) l.length)).drop x16).length : Nat) : Int)) (s_len (Rs.cut ((hm25.see 0 rfl)) eWr_len x16 (min (x16 + 61) l.length) (by omega) (by omega)) rfl Tryd.underlying23 rfl) ?_
  simp only [nz]
  refine lm 35 (J 0) ?_
  simp only [nz]
  refine wn (tj (hK35 _ _ ?_))
  refine wp_cutK (fun a' w' => ∃ (y41 : List UInt8) (y42 : Nat) (yu1 : Nat → Value), body_m_l1 epoch l l14 x16 ((((l.take (min (x16 + 61) l.length)).drop x16).length - 0) + 1) (((number_m epoch 8) ++ (number_m (l.length : Int) 4)), 0) = .inl (y41, y42) ∧ ((y41.length : Int) = 12 + 4 * y42 ∧ y42 ≤ (((l.take (min (x16 + 61) l.length)).drop x16) : List Wr).length ∧ (((l.take (min (x16 + 61) l.length)).drop x16) : List Wr).length ≤ 61) ∧ a' = ⟨#[J (epoch), lv0, undef, undef, .slice none 0 0, .string (tx ((number_m epoch 8) ++ (number_m (l.length : Int) 4))), v15, J (x16 : Int), .string (tx y41), undef, yu1 0, undef, undef, J (epoch), .string (tx (number_m epoch 8)), lv0, J (l.length : Int), .string (tx (number_m (l.length : Int) 4)), .string (tx ((number_m epoch 8) ++ (number_m (l.length : Int) 4))), J (x16 : Int), lv0, J (l.length : Int), .bool (decide (x16 < l.length)), u0 6, u0 7, .string (tx ((number_m epoch 8) ++ (number_m (l.length : Int) 4))), lv0, J (x16 : Int), J (x16 : Int), J (((x16 + 61) : Nat) : Int), lv0, J (l.length : Int), J (((min (x16 + 61) l.length) : Nat) : Int), (cutV lv0 x16 (min (x16 + 61) l.length) 2), J ((((l.take (min (x16 + 61) l.length)).drop x16).length : Nat) : Int), J (y42 : Int), yu1 1, yu1 2, yu1 3, yu1 4, yu1 5, yu1 6, yu1 7, yu1 8, yu1 9, u0 28, u0 29, u0 30, u0 31, u0 32, undef, undef, undef, undef, undef, undef, undef, undef, undef, undef, undef, undef, undef], []⟩ ∧ Mm none (fun _ => True) w w' [.see (Rs eWr 2 l lv0) Fl, .row v15 l14.length (l14.flatMap eS) 9 1]) ?_ ?_
  ·refine wp_block ?_
   refine wp_loop_n (fun n' a' w' => ∃ (n38 : Nat) (x36 : List UInt8) (x37 : Nat) (u1 : Nat → Value), n' = n38 ∧ (((l.take (min (x16 + 61) l.length)).drop x16).length - x37) < n38 ∧ body_m_l1 epoch l l14 x16 ((((l.take (min (x16 + 61) l.length)).drop x16).length - 0) + 1) (((number_m epoch 8) ++ (number_m (l.length : Int) 4)), 0) = body_m_l1 epoch l l14 x16 n38 (x36, x37) ∧ ((x36.length : Int) = 12 + 4 * x37 ∧ x37 ≤ (((l.take (min (x16 + 61) l.length)).drop x16) : List Wr).length ∧ (((l.take (min (x16 + 61) l.length)).drop x16) : List Wr).length ≤ 61) ∧ a' = ⟨#[J (epoch), lv0, undef, undef, .slice none 0 0, .string (tx ((number_m epoch 8) ++ (number_m (l.length : Int) 4))), v15, J (x16 : Int), .string (tx x36), undef, u1 0, undef, undef, J (epoch), .string (tx (number_m epoch 8)), lv0, J (l.length : Int), .string (tx (number_m (l.length : Int) 4)), .string (tx ((number_m epoch 8) ++ (number_m (l.length : Int) 4))), J (x16 : Int), lv0, J (l.length : Int), .bool (decide (x16 < l.length)), u0 6, u0 7, .string (tx ((number_m epoch 8) ++ (number_m (l.length : Int) 4))), lv0, J (x16 : Int), J (x16 : Int), J (((x16 + 61) : Nat) : Int), lv0, J (l.length : Int), J (((min (x16 + 61) l.length) : Nat) : Int), (cutV lv0 x16 (min (x16 + 61) l.length) 2), J ((((l.take (min (x16 + 61) l.length)).drop x16).length : Nat) : Int), J (x37 : Int), u1 1, u1 2, u1 3, u1 4, u1 5, u1 6, u1 7, u1 8, u1 9, u0 28, u0 29, u0 30, u0 31, u0 32, undef, undef, undef, undef, undef, undef, undef, undef, undef, undef, undef, undef, undef], []⟩ ∧ Mm none (fun _ => True) w w' [.see (Rs eWr 2 l lv0) Fl, .row v15 l14.length (l14.flatMap eS) 9 1]) ⟨((((l.take (min (x16 + 61) l.length)).drop x16).length - 0) + 1), ((number_m epoch 8) ++ (number_m (l.length : Int) 4)), 0, (fun qq => List.getD [u0 1, u0 19, u0 20, u0 21, u0 22, u0 23, u0 24, u0 25, u0 26, u0 27] qq undef), rfl, Nat.lt_succ_self _, rfl, (by refine ⟨?_, ?_, ?_⟩ <;> (simp only [List.length_append, List.length_drop, List.length_take]; omega)), rfl, hm25⟩ ?_
   rintro n38 _ w44 ⟨_, x36, x37, u1, rfl, hl48, hi40, hbi, rfl, hm45⟩ R46 hR46
   obtain ⟨k39, rfl⟩ : ∃ k, n38 = k + 1 := ⟨n38 - 1, by omega⟩
   refine wk (fun K49 hK49 => (wq ?_))
   refine lw 36 (.bool (decide (x37 < ((l.take (min (x16 + 61) l.length)).drop x16).length))) (r_lss x37 (((l.take (min (x16 + 61) l.length)).drop x16).length) rfl rfl rfl) ?_
   simp only [nz]
   refine wn (tj (hK49 _ _ (wk (fun K50 hK50 => ?_))))
   refine cond_d (x37 < ((l.take (min (x16 + 61) l.length)).drop x16).length) rfl (fun hc51 => ?_) (fun hc51 => ?_)
   rotate_left
   ·refine wp_exit (then_x (then_x (blk_x ?_)))
    refine tj ?_
    exact ⟨x36, x37, (fun qq => List.getD [u1 0, .bool (decide (x37 < ((l.take (min (x16 + 61) l.length)).drop x16).length)), u1 2, u1 3, u1 4, u1 5, u1 6, u1 7, u1 8, u1 9] qq undef), (hi40.trans (show body_m_b1 epoch l l14 x16 (body_m_l1 epoch l l14 x16 k39) x36 x37 = .inl (x36, x37) from by unfold body_m_b1; rw [if_neg hc51] <;> rfl)), (by omega), rfl, hm45⟩
   refine wp_skip (tj (hK50 _ _ (wk (fun K52 hK52 => ?_))))
   refine wp_block ?_
   refine wk (fun K53 hK53 => (wq ?_))
   refine lw 37 (.pointer (some ⟨(bk (cutV lv0 x16 (min (x16 + 61) l.length) 2)), (po (cutV lv0 x16 (min (x16 + 61) l.length) 2) + x37 * 2), none⟩)) (r_ixv (Rs.cut ((hm45.see 0 rfl)) eWr_len x16 (min (x16 + 61) l.length) (by omega) (by omega)) x37 (by omega) Tryd.underlying23 sz_51 rfl rfl rfl) ?_
   refine lw 38 (.agg #[J ((((l.take (min (x16 + 61) l.length)).drop x16).getD x37 dWr).at_), .string (tx ((((l.take (min (x16 + 61) l.length)).drop x16).getD x37 dWr).data))]) (r_partw (fun j u hj => Rs.cell (Rs.cut ((hm45.see 0 rfl)) eWr_len x16 (min (x16 + 61) l.length) (by omega) (by omega)) eWr_len dWr x37 (by omega) j u (arr_get hj)) Tryd.underlying51 rfl (by exact sz_51) rfl rfl) ?_
   simp only [nz]
   refine lst rfl (m_alloc (c := #[J 0, .string (tx ([]))]) (T := 51) hm45 10 rfl (by unfold execOp; go_simp; try rfl) (fun g56 w54 hm55 => ?_))
   simp only [nz]
   refine lst rfl (m_store 2 51 _ _ 0 (.agg #[J ((((l.take (min (x16 + 61) l.length)).drop x16).getD x37 dWr).at_), .string (tx ((((l.take (min (x16 + 61) l.length)).drop x16).getD x37 dWr).data))]) (old := #[J 0, .string (tx ([]))]) (new := #[J ((((l.take (min (x16 + 61) l.length)).drop x16).getD x37 dWr).at_), .string (tx ((((l.take (min (x16 + 61) l.length)).drop x16).getD x37 dWr).data))]) hm55 rfl rfl rfl rfl rfl (by exact sz_51) (show 0 + 2 ≤ 2 from by decide) (by simp [Value.cells, Value.oneCell']) rfl (fun w57 hm58 => ?_))
   refine wn (tj (hK53 _ _ (wq ?_)))
   refine lm 39 (.string (tx x36)) ?_
   refine lw 40 (Pp g56 0) (r_fa51_0 g56 0 rfl rfl) ?_
   refine lw 41 (J ((((l.take (min (x16 + 61) l.length)).drop x16).getD x37 dWr).at_)) (r_load (hm58.at 2 rfl) rfl Tryd.underlying3 rfl rfl rfl) ?_
   simp only [nz]
   refine lst rfl (m_call hm58 42 (.string (tx (QeF1 l x16 x37))) rfl (run_number rfl rfl rfl) (number_any ((((l.take (min (x16 + 61) l.length)).drop x16).getD x37 dWr).at_) 4  _  (by omega) (by omega)) (fun w59 hm60 => ?_))
   have hf61 : (((QeF1 l x16 x37).length : Nat) : Int) = 4 := number_len ((((l.take (min (x16 + 61) l.length)).drop x16).getD x37 dWr).at_) 4 (by omega) (by omega)
   simp only [nz]
   refine lw 43 (.string (tx (x36 ++ (QeF1 l x16 x37)))) (t_cat x36 (QeF1 l x16 x37) (by omega) rfl rfl rfl) ?_
   refine la 8 (.string (tx (x36 ++ (QeF1 l x16 x37)))) ?_
   simp only [nz]
   refine wn (blk_n (tj (hK52 _ _ (wq ?_))))
   refine lw 44 (J (((x37 + 1) : Nat) : Int)) (r_add x37 1 (show (x37 + 1) < 9223372036854775808 from by omega) rfl rfl rfl) ?_
   refine lm 35 (J (((x37 + 1) : Nat) : Int)) ?_
   simp only [nz]
   refine wn ?_
   refine tj (hR46 _ _ _ ⟨k39, (x36 ++ (QeF1 l x16 x37)), (x37 + 1), (fun qq => List.getD [Pp g56 0, .bool (decide (x37 < ((l.take (min (x16 + 61) l.length)).drop x16).length)), .pointer (some ⟨(bk (cutV lv0 x16 (min (x16 + 61) l.length) 2)), (po (cutV lv0 x16 (min (x16 + 61) l.length) 2) + x37 * 2), none⟩), .agg #[J ((((l.take (min (x16 + 61) l.length)).drop x16).getD x37 dWr).at_), .string (tx ((((l.take (min (x16 + 61) l.length)).drop x16).getD x37 dWr).data))], .string (tx x36), Pp g56 0, J ((((l.take (min (x16 + 61) l.length)).drop x16).getD x37 dWr).at_), .string (tx (QeF1 l x16 x37)), .string (tx (x36 ++ (QeF1 l x16 x37))), J (((x37 + 1) : Nat) : Int)] qq undef), rfl, (by omega), (hi40.trans (show body_m_b1 epoch l l14 x16 (body_m_l1 epoch l l14 x16 k39) x36 x37 = body_m_l1 epoch l l14 x16 k39 ((x36 ++ (QeF1 l x16 x37)), (x37 + 1)) from by unfold body_m_b1; rw [if_pos hc51] <;> rfl)), (by (try rw [List.length_append]); omega), rfl, (Mm.reorder hm60 [0, 1] (by decide) rfl)⟩ ?_)
   omega
  rintro _ w62 ⟨y41, y42, yu1, hx43, hbi, rfl, hm63⟩
  have hq64 : body_m_l0 epoch l ((l.length - 0) + 1) (([] : List (List UInt8)), 0) = body_m_k1 epoch l l14 x16 (body_m_l0 epoch l k18) y41 y42 := (hi19.trans (show body_m_b0 epoch l (body_m_l0 epoch l k18) l14 x16 = body_m_k1 epoch l l14 x16 (body_m_l0 epoch l k18) y41 y42 from by unfold body_m_b0; rw [if_pos hc31, hx43] <;> rfl))
  refine tj (hK34 _ _ (wq ?_))
  refine lm 45 (v15) ?_
  refine lm 46 (.string (tx y41)) ?_
  simp only [nz]
  refine lst rfl (m_call hm63 47 (.string (tx (fill_m y41))) rfl (run_fill rfl rfl) (fill_any y41  _  (by omega)) (fun w65 hm66 => ?_))
  have hf67 : (fill_m y41).length = 256 := rfill_len y41 (by omega)
  simp only [nz]
  refine lst rfl (m_make (c := #[.string (tx (fill_m y41))]) (T := 9) (fun g => Sl g 0 1 1) hm66 48 rfl (by unfold execOp; go_simp; try rfl) (fun g70 w68 hm69 => ?_))
  simp only [nz]
  obtain ⟨iq, hiq, hz1, hz2, hz3⟩ := inf_9
  refine lst rfl (m_appendR 1 (l := l14) (l2 := [(fill_m y41)]) iq _ _ _ (Sl g70 0 1 1) hm69 rfl 49 rfl rfl Tryd.underlying22 hiq hz1 hz2 hz3 eS_len eS_one rfl (by decide) rfl rfl (Rs.blk (l := [(fill_m y41)]) (hm69.at 2 rfl) rfl rfl eS_len (Nat.le_refl _)) (by simp; omega) (by simp; omega) (fun v73 w71 hm72 => ?_))
  simp only [nz]
  refine la 6 (v73) ?_
  simp only [nz]
  refine wn (blk_n (tj (hK32 _ _ (wq ?_))))
  refine lm 23 (J (x16 : Int)) ?_
  refine lw 24 (J (((x16 + 61) : Nat) : Int)) (r_add x16 61 (show (x16 + 61) < 9223372036854775808 from by omega) rfl rfl rfl) ?_
  refine la 7 (J (((x16 + 61) : Nat) : Int)) ?_
  simp only [nz]
  refine wn ?_
  refine tj (hR26 _ _ _ ⟨k18, (l14 ++ [(fill_m y41)]), (x16 + 61), v73, (fun qq => bif Nat.blt qq 24 then List.getD [.string (tx y41), yu1 0, J (x16 : Int), lv0, J (l.length : Int), .bool (decide (x16 < l.length)), J (x16 : Int), J (((x16 + 61) : Nat) : Int), .string (tx ((number_m epoch 8) ++ (number_m (l.length : Int) 4))), lv0, J (x16 : Int), J (x16 : Int), J (((x16 + 61) : Nat) : Int), lv0, J (l.length : Int), J (((min (x16 + 61) l.length) : Nat) : Int), (cutV lv0 x16 (min (x16 + 61) l.length) 2), J ((((l.take (min (x16 + 61) l.length)).drop x16).length : Nat) : Int), J (y42 : Int), yu1 1, yu1 2, yu1 3, yu1 4, yu1 5] qq undef else List.getD [yu1 6, yu1 7, yu1 8, yu1 9, v15, .string (tx y41), .string (tx (fill_m y41)), Sl g70 0 1 1, v73] (qq - 24) undef), rfl, (by omega), (hq64.trans (show body_m_k1 epoch l l14 x16 (body_m_l0 epoch l k18) y41 y42 = body_m_l0 epoch l k18 ((l14 ++ [(fill_m y41)]), (x16 + 61)) from by unfold body_m_k1; rfl)), (by rw [List.length_append, List.length_singleton]; omega), rfl, (Mm.reorder hm72 [0, 1] (by decide) rfl)⟩ ?_)
  omega
 rintro _ w74 ⟨y20, y22, v21, yu0, hx23, hbo, rfl, hm75⟩
 have hq76 : body_m epoch l = body_m_k0 epoch l y20 y22 := (show body_m epoch l = body_m_k0 epoch l y20 y22 from by unfold body_m; rw [hx23] <;> rfl)
 refine tj (hK10 _ _ (wk (fun K77 hK77 => (wk (fun K78 hK78 => (wq ?_))))))
 refine lm 50 (lv0) ?_
 refine lw 51 (J (l.length : Int)) (s_len ((hm75.see 0 rfl)) rfl Tryd.underlying23 rfl) ?_
 refine lm 52 (J 0) ?_
 simp only [nz]
 refine wn (tj (hK78 _ _ ?_))
 refine wp_cutK (fun a' w' => ∃ (y85 : List (List UInt8)) (y87 : Nat) (v86 : Value) (yu2 : Nat → Value), body_m_l2 epoch l y20 y22 ((l.length - 0) + 1) (y20, 0) = .inl (y85, y87) ∧ (y85.length ≤ l.length + 60 + y87 ∧ y87 ≤ l.length) ∧ a' = ⟨#[J (epoch), lv0, undef, undef, .slice none 0 0, .string (tx ((number_m epoch 8) ++ (number_m (l.length : Int) 4))), v86, J (y22 : Int), yu0 0, undef, yu0 1, undef, yu2 0, J (epoch), .string (tx (number_m epoch 8)), lv0, J (l.length : Int), .string (tx (number_m (l.length : Int) 4)), .string (tx ((number_m epoch 8) ++ (number_m (l.length : Int) 4))), yu0 2, yu0 3, yu0 4, yu0 5, yu0 6, yu0 7, yu0 8, yu0 9, yu0 10, yu0 11, yu0 12, yu0 13, yu0 14, yu0 15, yu0 16, yu0 17, yu0 18, yu0 19, yu0 20, yu0 21, yu0 22, yu0 23, yu0 24, yu0 25, yu0 26, yu0 27, yu0 28, yu0 29, yu0 30, yu0 31, yu0 32, lv0, J (l.length : Int), J (y87 : Int), yu2 1, yu2 2, yu2 3, yu2 4, yu2 5, yu2 6, yu2 7, yu2 8, yu2 9, undef], []⟩ ∧ Mm none (fun _ => True) w w' [.see (Rs eWr 2 l lv0) Fl, .row v86 y85.length (y85.flatMap eS) 9 1]) ?_ ?_
 ·refine wp_block ?_
  refine wp_loop_n (fun n' a' w' => ∃ (n82 : Nat) (l79 : List (List UInt8)) (x81 : Nat) (v80 : Value) (u2 : Nat → Value), n' = n82 ∧ (l.length - x81) < n82 ∧ body_m_l2 epoch l y20 y22 ((l.length - 0) + 1) (y20, 0) = body_m_l2 epoch l y20 y22 n82 (l79, x81) ∧ (l79.length ≤ l.length + 60 + x81 ∧ x81 ≤ l.length) ∧ a' = ⟨#[J (epoch), lv0, undef, undef, .slice none 0 0, .string (tx ((number_m epoch 8) ++ (number_m (l.length : Int) 4))), v80, J (y22 : Int), yu0 0, undef, yu0 1, undef, u2 0, J (epoch), .string (tx (number_m epoch 8)), lv0, J (l.length : Int), .string (tx (number_m (l.length : Int) 4)), .string (tx ((number_m epoch 8) ++ (number_m (l.length : Int) 4))), yu0 2, yu0 3, yu0 4, yu0 5, yu0 6, yu0 7, yu0 8, yu0 9, yu0 10, yu0 11, yu0 12, yu0 13, yu0 14, yu0 15, yu0 16, yu0 17, yu0 18, yu0 19, yu0 20, yu0 21, yu0 22, yu0 23, yu0 24, yu0 25, yu0 26, yu0 27, yu0 28, yu0 29, yu0 30, yu0 31, yu0 32, lv0, J (l.length : Int), J (x81 : Int), u2 1, u2 2, u2 3, u2 4, u2 5, u2 6, u2 7, u2 8, u2 9, undef], []⟩ ∧ Mm none (fun _ => True) w w' [.see (Rs eWr 2 l lv0) Fl, .row v80 l79.length (l79.flatMap eS) 9 1]) ⟨((l.length - 0) + 1), y20, 0, v21, (fun qq => List.getD [undef, undef, undef, undef, undef, undef, undef, undef, undef, undef] qq undef), rfl, Nat.lt_succ_self _, rfl, (by omega), rfl, hm75⟩ ?_
  rintro n82 _ w89 ⟨_, l79, x81, v80, u2, rfl, hl93, hi84, hbl, rfl, hm90⟩ R91 hR91
  obtain ⟨k83, rfl⟩ : ∃ k, n82 = k + 1 := ⟨n82 - 1, by omega⟩
  refine wk (fun K94 hK94 => (wq ?_))
  refine lw 53 (.bool (decide (x81 < l.length))) (r_lss x81 l.length rfl rfl rfl) ?_
  simp only [nz]
  refine wn (tj (hK94 _ _ (wk (fun K95 hK95 => ?_))))
  refine cond_d (x81 < l.length) rfl (fun hc96 => ?_) (fun hc96 => ?_)
  rotate_left
  ·refine wp_exit (then_x (then_x (blk_x ?_)))
   refine tj ?_
   exact ⟨l79, x81, v80, (fun qq => List.getD [u2 0, .bool (decide (x81 < l.length)), u2 2, u2 3, u2 4, u2 5, u2 6, u2 7, u2 8, u2 9] qq undef), (hi84.trans (show body_m_b2 epoch l y20 y22 (body_m_l2 epoch l y20 y22 k83) l79 x81 = .inl (l79, x81) from by unfold body_m_b2; rw [if_neg hc96] <;> rfl)), (by omega), rfl, hm90⟩
  refine wp_skip (tj (hK95 _ _ (wk (fun K97 hK97 => ?_))))
  refine wp_block ?_
  refine wk (fun K98 hK98 => (wq ?_))
  refine lw 54 (.pointer (some ⟨(bk lv0), (po lv0 + x81 * 2), none⟩)) (r_ixv ((hm90.see 0 rfl)) x81 (by omega) Tryd.underlying23 sz_51 rfl rfl rfl) ?_
  refine lw 55 (.agg #[J ((l.getD x81 dWr).at_), .string (tx ((l.getD x81 dWr).data))]) (r_partw (fun j u hj => Rs.cell ((hm90.see 0 rfl)) eWr_len dWr x81 (by omega) j u (arr_get hj)) Tryd.underlying51 rfl (by exact sz_51) rfl rfl) ?_
  simp only [nz]
  refine lst rfl (m_alloc (c := #[J 0, .string (tx ([]))]) (T := 51) hm90 12 rfl (by unfold execOp; go_simp; try rfl) (fun g101 w99 hm100 => ?_))
  simp only [nz]
  refine lst rfl (m_store 2 51 _ _ 0 (.agg #[J ((l.getD x81 dWr).at_), .string (tx ((l.getD x81 dWr).data))]) (old := #[J 0, .string (tx ([]))]) (new := #[J ((l.getD x81 dWr).at_), .string (tx ((l.getD x81 dWr).data))]) hm100 rfl rfl rfl rfl rfl (by exact sz_51) (show 0 + 2 ≤ 2 from by decide) (by simp [Value.cells, Value.oneCell']) rfl (fun w102 hm103 => ?_))
  refine wn (tj (hK98 _ _ (wq ?_)))
  refine lm 56 (v80) ?_
  refine lw 57 (Pp g101 1) (r_fa51_1 g101 0 rfl rfl) ?_
  refine lw 58 (.string (tx ((l.getD x81 dWr).data))) (r_load (hm103.at 2 rfl) rfl Tryd.underlying9 rfl rfl rfl) ?_
  simp only [nz]
  refine lst rfl (m_make (c := #[.string (tx ((l.getD x81 dWr).data))]) (T := 9) (fun g => Sl g 0 1 1) hm103 59 rfl (by unfold execOp; go_simp; try rfl) (fun g106 w104 hm105 => ?_))
  simp only [nz]
  obtain ⟨iq, hiq, hz1, hz2, hz3⟩ := inf_9
  refine lst rfl (m_appendR 1 (l := l79) (l2 := [((l.getD x81 dWr).data)]) iq _ _ _ (Sl g106 0 1 1) hm105 rfl 60 rfl rfl Tryd.underlying22 hiq hz1 hz2 hz3 eS_len eS_one rfl (by decide) rfl rfl (Rs.blk (l := [((l.getD x81 dWr).data)]) (hm105.at 3 rfl) rfl rfl eS_len (Nat.le_refl _)) (by simp; omega) (by simp; omega) (fun v109 w107 hm108 => ?_))
  simp only [nz]
  refine la 6 (v109) ?_
  simp only [nz]
  refine wn (blk_n (tj (hK97 _ _ (wq ?_))))
  refine lw 61 (J (((x81 + 1) : Nat) : Int)) (r_add x81 1 (show (x81 + 1) < 9223372036854775808 from by omega) rfl rfl rfl) ?_
  refine lm 52 (J (((x81 + 1) : Nat) : Int)) ?_
  simp only [nz]
  refine wn ?_
  refine tj (hR91 _ _ _ ⟨k83, (l79 ++ [((l.getD x81 dWr).data)]), (x81 + 1), v109, (fun qq => List.getD [Pp g101 0, .bool (decide (x81 < l.length)), .pointer (some ⟨(bk lv0), (po lv0 + x81 * 2), none⟩), .agg #[J ((l.getD x81 dWr).at_), .string (tx ((l.getD x81 dWr).data))], v80, Pp g101 1, .string (tx ((l.getD x81 dWr).data)), Sl g106 0 1 1, v109, J (((x81 + 1) : Nat) : Int)] qq undef), rfl, (by omega), (hi84.trans (show body_m_b2 epoch l y20 y22 (body_m_l2 epoch l y20 y22 k83) l79 x81 = body_m_l2 epoch l y20 y22 k83 ((l79 ++ [((l.getD x81 dWr).data)]), (x81 + 1)) from by unfold body_m_b2; rw [if_pos hc96] <;> rfl)), (by rw [List.length_append, List.length_singleton]; omega), rfl, (Mm.reorder hm108 [0, 1] (by decide) rfl)⟩ ?_)
  omega
 rintro _ w110 ⟨y85, y87, v86, yu2, hx88, hbl, rfl, hm111⟩
 have hq112 : body_m epoch l = body_m_k2 epoch l y20 y22 y85 y87 := (hq76.trans (show body_m_k0 epoch l y20 y22 = body_m_k2 epoch l y20 y22 y85 y87 from by unfold body_m_k0; rw [hx88] <;> rfl))
 refine tj (hK77 _ _ (wk (fun K113 hK113 => (wq ?_))))
 refine lm 62 (v86) ?_
 refine la 4 (v86) ?_
 simp only [nz]
 refine wn (tj (hK113 _ _ (wp_ret ?_)))
 have he114 : body_m epoch l = y85 := (hq112.trans (show body_m_k2 epoch l y20 y22 y85 y87 = y85 from by unfold body_m_k2; rfl))
 exact ⟨rfl, v86, res_t rfl rfl, ⟨⟨_, rfl, v86, (by rfl), by rw [he114]; exact hm111.gives 1 rfl⟩, hm111.below⟩⟩
theorem run_body {o : Oper} {a : Act} {w : World} {x0 x1 : Operand} {v0 v1 : Value} (ho : o.op = .call { callee := .value (.func 47), args := #[x0, x1], argTypes := #[3, 23] }) (h0 : a.eval x0 = v0) (h1 : a.eval x1 = v1) :
  (execOp a.eval o).run Tryd.prog w = .ok (.enter 47 #[v0, v1]) w := by
 unfold execOp
 simp only [ho]
 have hf : a.eval (.func 47) = .func (.func 47) #[] #[] := rfl
 generalize a.eval = f at *
 go_simp
end Go.Proofs.YtnmaaijeamlplaaDoor.Bk
