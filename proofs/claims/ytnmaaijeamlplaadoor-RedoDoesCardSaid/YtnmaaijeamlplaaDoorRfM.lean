import Derived.Test.YtnmaaijeamlplaaDoorRfD
import Derived.Test.YtnmaaijeamlplaaDoorApG
import Derived.Test.YtnmaaijeamlplaaDoorReX
import Derived.Test.YtnmaaijeamlplaaDoorReH
set_option linter.unusedVariables false
set_option linter.unusedSimpArgs false
set_option maxHeartbeats 4000000
set_option maxRecDepth 100000
namespace Go.Proofs.YtnmaaijeamlplaaDoor.Bk
open Go.RowKit
open Go.Proofs.YtnmaaijeamlplaaDoor.Sym Go.Proofs.YtnmaaijeamlplaaDoor.Mem
open Go.Proofs.YtnmaaijeamlplaaDoor.Sx hiding Mm m_alloc m_store m_call m_callx
attribute [local irreducible] right_m rright_m ready_m rready_m copied_m burn_m put_m get_m flush_m spent_m rput_m rget_m rflush_m blank_m rnew_m same_m
attribute [local irreducible] number_m value_m fill_m beginning_m log_m fits_m lists_m epoch_m
attribute [local irreducible] home_m putall_m
attribute [local irreducible] putfl_m body_m rise_m sized_m current_m join_m sum_m
attribute [local irreducible] format_m rend_m bring_m
attribute [local irreducible] commit_m
attribute [local irreducible] rlog_m four_m eight_m rread_m rfull_m
attribute [local irreducible] rhead_m rlists_m rfits_m repoch_m rbody_m
attribute [local irreducible] rall_m done_m
attribute [local irreducible] wpList Oper.wp
def rformat_m_b0 (d : Dk) (rec : (List (List UInt8)) → Sum ((List (List UInt8))) (Dk × Int)) (l46 : List (List UInt8)) : Sum ((List (List UInt8))) (Dk × Int) :=
 if ((l46.length : Nat) : Int) < (rlog_m d) then
  rec (l46 ++ [(rfull_m ([]))])
 else
  .inl l46
def rformat_m_l0 (d : Dk) : Nat → (List (List UInt8)) → Sum ((List (List UInt8))) (Dk × Int)
 | 0, zz => .inl zz
 | nq + 1, zz => rformat_m_b0 d (rformat_m_l0 d nq) zz
def rformat_m_k0 (d : Dk) (y51 : List (List UInt8)) : Dk × Int :=
 (((rall_m d 0 y51).1), (rall_m d 0 y51).2)
def rformat_m (d : Dk) : Dk × Int :=
 if (!(rright_m d)) = true then
  (d, 1)
 else
  fin (rformat_m_l0 d ((d.safe.length / 4 - ([(rhead_m 1)] ++ [(rfull_m ([]))]).length) + 1) ([(rhead_m 1)] ++ [(rfull_m ([]))])) (fun r => r) (fun zz => rformat_m_k0 d zz)
theorem rformat_any (d : Dk) (dv0 : Value) (dv1 : Value) (S : Nat → Prop) (w : World) (hd : From S (DkR d dv0 dv1) w) (hp0 : d.safe.length ≤ 8796093021952) (hp1 : d.loose.length ≤ 5864063000000) (hp2 : d.fuse ≤ 9223372036854775807) : Calls Tryd.prog 19 #[.agg #[dv0, dv1, J (d.fuse), .bool (d.down)]] w (fun e w' => (∃ v, e = .returned v ∧ ∃ (o0 : Value) (o1 : Value), v = .tuple #[.agg #[o0, o1, J (((rformat_m d).1).fuse), .bool (((rformat_m d).1).down)], J ((rformat_m d).2)] ∧ Gives w w' S (DkR ((rformat_m d).1) o0 o1)) ∧ Below w.heap.size w w') := by
 go_enter Tryd.func19, Tryd.ntmps19
 have hm00 := Mm.nil none S w
 obtain ⟨Fd, hm01⟩ := hm00.come hd
 have hm0 := hm01
 refine wk (fun K1 hK1 => (wq ?_))
 refine lst rfl (m_alloc (c := #[dv0, dv1, J (d.fuse), .bool (d.down)]) (T := 25) hm0 1 rfl (run_box rfl rfl) (fun g4 w2 hm3 => ?_))
 simp only [nz]
 refine lst rfl (m_alloc (c := #[.slice none 0 0, .slice none 0 0, J 0, .bool false]) (T := 25) hm3 2 rfl (by unfold execOp; go_simp; try rfl) (fun g7 w5 hm6 => ?_))
 simp only [nz]
 refine la 3 (J 0) ?_
 simp only [nz]
 refine wn (tj (hK1 _ _ (wk (fun K8 hK8 => (wk (fun K9 hK9 => (wq ?_)))))))
 refine lw 5 (.agg #[dv0, dv1, J (d.fuse), .bool (d.down)]) (r_whole (hm6.at 1 rfl) Tryd.underlying25 rfl (by exact sz_25) rfl rfl) ?_
 simp only [nz]
 refine lst rfl (m_call hm6 6 (.bool ((rright_m d))) rfl (run_rright rfl rfl) (rright_any d dv0 dv1 _ (hm6.see 0 rfl) (by omega)) (fun w10 hm11 => ?_))
 simp only [nz]
 refine lw 7 (.bool (!(rright_m d))) (r_not (rright_m d) rfl rfl) ?_
 simp only [nz]
 refine wn (tj (hK9 _ _ ?_))
 refine cond_B (!(rright_m d)) rfl (fun hc12 => ?_) (fun hc12 => ?_)
 ·refine wk (fun K13 hK13 => (wq ?_))
  refine lw 8 (.agg #[dv0, dv1, J (d.fuse), .bool (d.down)]) (r_whole (hm11.at 1 rfl) Tryd.underlying25 rfl (by exact sz_25) rfl rfl) ?_
  simp only [nz]
  have ho16 := (rd_one ((hm11.see 0 rfl).1))
  have ho17 := (rd_one ((hm11.see 0 rfl).2))
  refine lst rfl (m_store 2 25 _ _ 0 (.agg #[dv0, dv1, J (d.fuse), .bool (d.down)]) (old := #[.slice none 0 0, .slice none 0 0, J 0, .bool false]) (new := #[dv0, dv1, J (d.fuse), .bool (d.down)]) hm11 rfl rfl rfl rfl rfl (by exact sz_25) (show 0 + 4 ≤ 4 from by decide) a4 rfl (fun w14 hm15 => ?_))
  refine la 3 (J 1) ?_
  simp only [nz]
  refine wn (tj (hK13 _ _ (wp_ret (then_r ?_))))
  have he18 : rformat_m d = (d, 1) := by unfold rformat_m; rw [if_pos hc12] <;> rfl
  exact ⟨rfl, .tuple #[.agg #[dv0, dv1, J (d.fuse), .bool (d.down)], J 1], Mem.res_ct rfl rfl (hm15.at 2 rfl) Tryd.underlying25 rfl (by exact sz_25) rfl, ⟨⟨_, rfl, dv0, dv1, (by rw [he18]), by rw [he18]; exact hm15.give (hm15.from 0 rfl)⟩, hm15.below⟩⟩
 refine wp_skip (tj (hK8 _ _ (wk (fun K19 hK19 => (wq ?_)))))
 refine lst rfl (m_call hm11 9 (.string (tx (rhead_m 1))) rfl (run_rhead rfl rfl) (rhead_any 1  _  ) (fun w20 hm21 => ?_))
 have hf22 : (rhead_m 1).length = 256 := rhead_len 1
 simp only [nz]
 refine lst rfl (m_make (c := #[.string (tx (rhead_m 1))]) (T := 9) (fun g => Sl g 0 1 1) hm21 10 rfl (by unfold execOp; go_simp; try rfl) (fun g25 w23 hm24 => ?_))
 simp only [nz]
 refine la 4 (Sl g25 0 1 1) ?_
 simp only [nz]
 refine wn (tj (hK19 _ _ (wk (fun K26 hK26 => ?_))))
 refine wp_cutK (fun a' w' => ∃ (y51 : List (List UInt8)) (v52 : Value) (yu0 : Nat → Value), rformat_m_l0 d ((d.safe.length / 4 - ([(rhead_m 1)] ++ [(rfull_m ([]))]).length) + 1) ([(rhead_m 1)] ++ [(rfull_m ([]))]) = .inl y51 ∧ (y51.length ≤ d.safe.length / 4 + 1) ∧ a' = ⟨#[.agg #[dv0, dv1, J (d.fuse), .bool (d.down)], Pp g4 0, Pp g7 0, J 0, v52, .agg #[dv0, dv1, J (d.fuse), .bool (d.down)], .bool ((rright_m d)), .bool (!(rright_m d)), undef, .string (tx (rhead_m 1)), Sl g25 0 1 1, yu0 0, yu0 1, yu0 2, yu0 3, yu0 4, yu0 5, yu0 6, yu0 7, yu0 8, undef, undef, undef, undef, undef], []⟩ ∧ Mm none S w w' [.see (DkR d dv0 dv1) Fd, .blk g4 #[dv0, dv1, J (d.fuse), .bool (d.down)] 25, .blk g7 #[.slice none 0 0, .slice none 0 0, J 0, .bool false] 25, .blk g25 #[.string (tx (rhead_m 1))] 9, .row v52 y51.length (y51.flatMap eS) 9 1]) ?_ ?_
 ·refine wp_block ?_
  refine wp_loop_n (fun n' a' w' => (n' = (d.safe.length / 4 - ([(rhead_m 1)] ++ [(rfull_m ([]))]).length) + 1 + 1 ∧ a' = ⟨#[.agg #[dv0, dv1, J (d.fuse), .bool (d.down)], Pp g4 0, Pp g7 0, J 0, Sl g25 0 1 1, .agg #[dv0, dv1, J (d.fuse), .bool (d.down)], .bool ((rright_m d)), .bool (!(rright_m d)), undef, .string (tx (rhead_m 1)), Sl g25 0 1 1, undef, undef, undef, undef, undef, undef, undef, undef, undef, undef, undef, undef, undef, undef], []⟩ ∧ Mm none S w w' [.see (DkR d dv0 dv1) Fd, .blk g4 #[dv0, dv1, J (d.fuse), .bool (d.down)] 25, .blk g7 #[.slice none 0 0, .slice none 0 0, J 0, .bool false] 25, .blk g25 #[.string (tx (rhead_m 1))] 9]) ∨ ∃ (n48 : Nat) (l46 : List (List UInt8)) (v47 : Value) (u0 : Nat → Value), n' = n48 ∧ (d.safe.length / 4 - l46.length) < n48 ∧ rformat_m_l0 d ((d.safe.length / 4 - ([(rhead_m 1)] ++ [(rfull_m ([]))]).length) + 1) ([(rhead_m 1)] ++ [(rfull_m ([]))]) = rformat_m_l0 d n48 l46 ∧ (l46.length ≤ d.safe.length / 4 + 1) ∧ a' = ⟨#[.agg #[dv0, dv1, J (d.fuse), .bool (d.down)], Pp g4 0, Pp g7 0, J 0, v47, .agg #[dv0, dv1, J (d.fuse), .bool (d.down)], .bool ((rright_m d)), .bool (!(rright_m d)), undef, .string (tx (rhead_m 1)), Sl g25 0 1 1, u0 0, u0 1, u0 2, u0 3, u0 4, u0 5, u0 6, u0 7, u0 8, undef, undef, undef, undef, undef], []⟩ ∧ Mm none S w w' [.see (DkR d dv0 dv1) Fd, .blk g4 #[dv0, dv1, J (d.fuse), .bool (d.down)] 25, .blk g7 #[.slice none 0 0, .slice none 0 0, J 0, .bool false] 25, .blk g25 #[.string (tx (rhead_m 1))] 9, .row v47 l46.length (l46.flatMap eS) 9 1]) (.inl ⟨rfl, rfl, hm24⟩) ?_
  rintro n48 _ w54 (⟨rfl, rfl, hm28⟩ | ⟨_, l46, v47, u0, rfl, hl58, hi50, hfo, rfl, hm55⟩) R56 hR56
  ·refine wk (fun K30 hK30 => (wk (fun K31 hK31 => (wq ?_))))
   refine lm 11 (Sl g25 0 1 1) ?_
   refine lw 12 (J 1) (Sx.r_lenS rfl Tryd.underlying22 rfl) ?_
   refine lw 13 (.agg #[dv0, dv1, J (d.fuse), .bool (d.down)]) (r_whole (hm28.at 1 rfl) Tryd.underlying25 rfl (by exact sz_25) rfl rfl) ?_
   simp only [nz]
   refine lst rfl (m_call hm28 14 (J ((rlog_m d))) rfl (run_rlog rfl rfl) (rlog_any d dv0 dv1 _ (hm28.see 0 rfl) (by omega) (by omega)) (fun w32 hm33 => ?_))
   have hf34 : (rlog_m d) = (((d.safe.length / 4 : Nat)) : Int) := rlog_len d
   simp only [nz]
   refine lw 15 (.bool true) ((z_lss 1 (rlog_m d) rfl rfl rfl).trans (by rw [(decide_eq_true (show (1 < (rlog_m d)) from (by have h8 := reight_of (d := d) (by assumption); omega)))])) ?_
   simp only [nz]
   refine wn (tj (hK31 _ _ ?_))
   refine cond_t rfl ?_
   refine wp_skip (tj (hK30 _ _ ?_))
   refine wp_block ?_
   refine wq ?_
   refine lm 16 (Sl g25 0 1 1) ?_
   simp only [nz]
   refine lst rfl (m_call hm33 17 (.string (tx (rfull_m ([])))) rfl (run_rfull rfl rfl) (rfull_any ([])  _  (by simp; done)) (fun w35 hm36 => ?_))
   have hf37 : (rfull_m ([])).length = 256 := rfull_len ([]) (by simp; done)
   simp only [nz]
   refine lst rfl (m_make (c := #[.string (tx (rfull_m ([])))]) (T := 9) (fun g => Sl g 0 1 1) hm36 18 rfl (by unfold execOp; go_simp; try rfl) (fun g40 w38 hm39 => ?_))
   simp only [nz]
   obtain ⟨iq, hiq, hz1, hz2, hz3⟩ := inf_9
   refine lst rfl (m_appendG (l := [(rhead_m 1)]) (l2 := [(rfull_m ([]))]) iq _ _ _ (Sl g40 0 1 1) hm39 19 rfl rfl Tryd.underlying22 hiq hz1 hz2 hz3 eS_len rfl rfl rfl (Rs.blk (l := [(rhead_m 1)]) (hm39.at 3 rfl) rfl rfl eS_len (Nat.le_refl _)) (Rs.blk (l := [(rfull_m ([]))]) (hm39.at 4 rfl) rfl rfl eS_len (Nat.le_refl _)) (by decide) (by decide) (by simp) (by simp) (fun v43 w41 hm42 => ?_))
   simp only [nz]
   refine la 4 (v43) ?_
   simp only [nz]
   refine wn (blk_n ?_)
   have hm45 : Mm none S w w41 [.see (DkR d dv0 dv1) Fd, .blk g4 #[dv0, dv1, J (d.fuse), .bool (d.down)] 25, .blk g7 #[.slice none 0 0, .slice none 0 0, J 0, .bool false] 25, .blk g25 #[.string (tx (rhead_m 1))] 9, .row v43 ([(rhead_m 1)] ++ [(rfull_m ([]))]).length (([(rhead_m 1)] ++ [(rfull_m ([]))]).flatMap eS) 9 1] := Mm.reorder hm42 [0, 1, 2, 3, 5] (by decide) rfl
   refine tj (hR56 _ _ _ (.inr ⟨((d.safe.length / 4 - ([(rhead_m 1)] ++ [(rfull_m ([]))]).length) + 1), ([(rhead_m 1)] ++ [(rfull_m ([]))]), v43, (fun qq => List.getD [Sl g25 0 1 1, J 1, .agg #[dv0, dv1, J (d.fuse), .bool (d.down)], J ((rlog_m d)), .bool true, Sl g25 0 1 1, .string (tx (rfull_m ([]))), Sl g40 0 1 1, v43] qq undef), rfl, Nat.lt_succ_self _, rfl, (by have h8 := reight_of (d := d) (by assumption); simp only [List.length_append, List.length_cons, List.length_nil]; omega), rfl, hm45⟩) ?_)
   omega
  obtain ⟨k49, rfl⟩ : ∃ k, n48 = k + 1 := ⟨n48 - 1, by omega⟩
  refine wk (fun K59 hK59 => (wk (fun K60 hK60 => (wq ?_))))
  refine lm 11 (v47) ?_
  refine lw 12 (J (l46.length : Int)) (s_len (Rs.row (hm55.row 4 rfl)) rfl Tryd.underlying22 rfl) ?_
  refine lw 13 (.agg #[dv0, dv1, J (d.fuse), .bool (d.down)]) (r_whole (hm55.at 1 rfl) Tryd.underlying25 rfl (by exact sz_25) rfl rfl) ?_
  simp only [nz]
  refine lst rfl (m_call hm55 14 (J ((rlog_m d))) rfl (run_rlog rfl rfl) (rlog_any d dv0 dv1 _ (hm55.see 0 rfl) (by omega) (by omega)) (fun w61 hm62 => ?_))
  have hf63 : (rlog_m d) = (((d.safe.length / 4 : Nat)) : Int) := rlog_len d
  simp only [nz]
  refine lw 15 (.bool (decide ((l46.length : Int) < (rlog_m d)))) (z_lss (l46.length : Int) (rlog_m d) rfl rfl rfl) ?_
  simp only [nz]
  refine wn (tj (hK60 _ _ ?_))
  refine cond_d ((l46.length : Int) < (rlog_m d)) rfl (fun hc64 => ?_) (fun hc64 => ?_)
  rotate_left
  ·refine wp_exit (then_x (then_x (blk_x ?_)))
   refine tj ?_
   exact ⟨l46, v47, (fun qq => List.getD [v47, J (l46.length : Int), .agg #[dv0, dv1, J (d.fuse), .bool (d.down)], J ((rlog_m d)), .bool (decide ((l46.length : Int) < (rlog_m d))), u0 5, u0 6, u0 7, u0 8] qq undef), (hi50.trans (show rformat_m_b0 d (rformat_m_l0 d k49) l46 = .inl l46 from by unfold rformat_m_b0; rw [if_neg hc64] <;> rfl)), (by omega), rfl, hm62⟩
  refine wp_skip (tj (hK59 _ _ ?_))
  refine wp_block ?_
  refine wq ?_
  refine lm 16 (v47) ?_
  simp only [nz]
  refine lst rfl (m_call hm62 17 (.string (tx (rfull_m ([])))) rfl (run_rfull rfl rfl) (rfull_any ([])  _  (by simp; done)) (fun w65 hm66 => ?_))
  have hf67 : (rfull_m ([])).length = 256 := rfull_len ([]) (by simp; done)
  simp only [nz]
  refine lst rfl (m_make (c := #[.string (tx (rfull_m ([])))]) (T := 9) (fun g => Sl g 0 1 1) hm66 18 rfl (by unfold execOp; go_simp; try rfl) (fun g70 w68 hm69 => ?_))
  simp only [nz]
  obtain ⟨iq, hiq, hz1, hz2, hz3⟩ := inf_9
  refine lst rfl (m_appendR 4 (l := l46) (l2 := [(rfull_m ([]))]) iq _ _ _ (Sl g70 0 1 1) hm69 rfl 19 rfl rfl Tryd.underlying22 hiq hz1 hz2 hz3 eS_len eS_one rfl (by decide) rfl rfl (Rs.blk (l := [(rfull_m ([]))]) (hm69.at 5 rfl) rfl rfl eS_len (Nat.le_refl _)) (by simp; omega) (by simp; omega) (fun v73 w71 hm72 => ?_))
  simp only [nz]
  refine la 4 (v73) ?_
  simp only [nz]
  refine wn (blk_n ?_)
  refine tj (hR56 _ _ _ (.inr ⟨k49, (l46 ++ [(rfull_m ([]))]), v73, (fun qq => List.getD [v47, J (l46.length : Int), .agg #[dv0, dv1, J (d.fuse), .bool (d.down)], J ((rlog_m d)), .bool (decide ((l46.length : Int) < (rlog_m d))), v47, .string (tx (rfull_m ([]))), Sl g70 0 1 1, v73] qq undef), rfl, (by rw [List.length_append, List.length_singleton]; omega), (hi50.trans (show rformat_m_b0 d (rformat_m_l0 d k49) l46 = rformat_m_l0 d k49 (l46 ++ [(rfull_m ([]))]) from by unfold rformat_m_b0; rw [if_pos hc64] <;> rfl)), (by rw [List.length_append, List.length_singleton]; omega), rfl, (Mm.reorder hm72 [0, 1, 2, 3, 4] (by decide) rfl)⟩) ?_)
  omega
 rintro _ w74 ⟨y51, v52, yu0, hx53, hfo, rfl, hm75⟩
 have hq76 : rformat_m d = rformat_m_k0 d y51 := (show rformat_m d = rformat_m_k0 d y51 from by unfold rformat_m; rw [if_neg hc12, hx53] <;> rfl)
 refine tj (hK26 _ _ (wk (fun K77 hK77 => (wq ?_))))
 refine lw 20 (.agg #[dv0, dv1, J (d.fuse), .bool (d.down)]) (r_whole (hm75.at 1 rfl) Tryd.underlying25 rfl (by exact sz_25) rfl rfl) ?_
 refine lm 21 (v52) ?_
 simp only [nz]
 have hm80 : Mm none S w w74 [.see (DkR d dv0 dv1) Fd, .blk g4 #[dv0, dv1, J (d.fuse), .bool (d.down)] 25, .blk g7 #[.slice none 0 0, .slice none 0 0, J 0, .bool false] 25, .blk g25 #[.string (tx (rhead_m 1))] 9, .see (Rs eS 1 y51 v52) (fp v52 (y51.flatMap eS))] := hm75.freeze 4 rfl
 refine lst rfl (m_callx hm80 22 rfl (run_rall rfl rfl rfl rfl) (rall_any d 0 y51 dv0 dv1 v52 (seeS _) _ (hm80.from 0 rfl) (hm80.from 4 rfl) (by omega) (by omega) (by omega) (by have h2048 := rfew_of (d := d) (by assumption); first | omega | (rw [List.length_append, List.length_singleton]; omega)) (by omega) (by omega)) (fun vv85 w78 hR86 hb87 hm79 => ?_))
 obtain ⟨v81, v82, rfl, hg88⟩ := hR86
 obtain ⟨F84, hm89⟩ : ∃ F84, Mm none S w w78 [.see (DkR d dv0 dv1) Fd, .blk g4 #[dv0, dv1, J (d.fuse), .bool (d.down)] 25, .blk g7 #[.slice none 0 0, .slice none 0 0, J 0, .bool false] 25, .blk g25 #[.string (tx (rhead_m 1))] 9, .see (Rs eS 1 y51 v52) (fp v52 (y51.flatMap eS)), .see (DkR ((rall_m d 0 y51).1) v81 v82) F84] := Mm.tookS hm80 hb87 hg88
 clear hm79 hg88 hb87
 have hf90 : (rall_m d 0 y51).1.safe.length = d.safe.length := (rall_near d 0 y51).1
 have hf91 : (rall_m d 0 y51).1.loose.length ≤ d.loose.length + (y51 : List (List UInt8)).length := (rall_near d 0 y51).2.1
 have hf92 : (rall_m d 0 y51).1.fuse ≤ 9223372036854775807 := (rall_near d 0 y51).2.2 (show d.fuse ≤ 9223372036854775807 from (by omega))
 simp only [nz]
 refine lw 23 (.agg #[v81, v82, J (((rall_m d 0 y51).1).fuse), .bool (((rall_m d 0 y51).1).down)]) (run_ex rfl rfl rfl) ?_
 refine lw 24 (J ((rall_m d 0 y51).2)) (run_ex rfl rfl rfl) ?_
 simp only [nz]
 have ho95 := (rd_one ((hm89.see 5 rfl).1))
 have ho96 := (rd_one ((hm89.see 5 rfl).2))
 refine lst rfl (m_store 2 25 _ _ 0 (.agg #[v81, v82, J (((rall_m d 0 y51).1).fuse), .bool (((rall_m d 0 y51).1).down)]) (old := #[.slice none 0 0, .slice none 0 0, J 0, .bool false]) (new := #[v81, v82, J (((rall_m d 0 y51).1).fuse), .bool (((rall_m d 0 y51).1).down)]) hm89 rfl rfl rfl rfl rfl (by exact sz_25) (show 0 + 4 ≤ 4 from by decide) a4 rfl (fun w93 hm94 => ?_))
 refine la 3 (J ((rall_m d 0 y51).2)) ?_
 simp only [nz]
 refine wn (tj (hK77 _ _ (wp_ret ?_)))
 have he97 : rformat_m d = (((rall_m d 0 y51).1), (rall_m d 0 y51).2) := (hq76.trans (show rformat_m_k0 d y51 = (((rall_m d 0 y51).1), (rall_m d 0 y51).2) from by unfold rformat_m_k0; rfl))
 exact ⟨rfl, .tuple #[.agg #[v81, v82, J (((rall_m d 0 y51).1).fuse), .bool (((rall_m d 0 y51).1).down)], J ((rall_m d 0 y51).2)], Mem.res_ct rfl rfl (hm94.at 2 rfl) Tryd.underlying25 rfl (by exact sz_25) rfl, ⟨⟨_, rfl, v81, v82, (by rw [he97]), by rw [he97]; exact hm94.give (hm94.from 5 rfl)⟩, hm94.below⟩⟩
theorem run_rformat {o : Oper} {a : Act} {w : World} {x0 : Operand} {v0 : Value} (ho : o.op = .call { callee := .value (.func 19), args := #[x0], argTypes := #[25] }) (h0 : a.eval x0 = v0) :
  (execOp a.eval o).run Tryd.prog w = .ok (.enter 19 #[v0]) w := by
 unfold execOp
 simp only [ho]
 have hf : a.eval (.func 19) = .func (.func 19) #[] #[] := rfl
 generalize a.eval = f at *
 go_simp
def place_m_b0 (d : Dk) (epoch : Int) (l : List Wr) (rec : Nat × (List (List UInt8)) × (List Wr) × Int × Bool × (List (List UInt8)) × (List Wr) × Nat × Bool → Sum (Nat × (List (List UInt8)) × (List Wr) × Int × Bool × (List (List UInt8)) × (List Wr) × Nat × Bool) (Dk × Int)) (x10 : Nat) (l11 : List (List UInt8)) (l15 : List Wr) (x19 : Int) (x20 : Bool) (l21 : List (List UInt8)) (l25 : List Wr) (x29 : Nat) (x30 : Bool) : Sum (Nat × (List (List UInt8)) × (List Wr) × Int × Bool × (List (List UInt8)) × (List Wr) × Nat × Bool) (Dk × Int) :=
 if x10 < l.length then
  if ¬ (rput_m (Dk.mk l11 l15 x19 x20) ((rlog_m (Dk.mk l11 l15 x19 x20)) + (l.getD x10 dWr).at_) ((l.getD x10 dWr).data)).2 = 0 then
   .inr (((rput_m (Dk.mk l11 l15 x19 x20) ((rlog_m (Dk.mk l11 l15 x19 x20)) + (l.getD x10 dWr).at_) ((l.getD x10 dWr).data)).1), (rput_m (Dk.mk l11 l15 x19 x20) ((rlog_m (Dk.mk l11 l15 x19 x20)) + (l.getD x10 dWr).at_) ((l.getD x10 dWr).data)).2)
  else
   rec ((x10 + 1), (((rput_m (Dk.mk l11 l15 x19 x20) ((rlog_m (Dk.mk l11 l15 x19 x20)) + (l.getD x10 dWr).at_) ((l.getD x10 dWr).data)).1).safe), (((rput_m (Dk.mk l11 l15 x19 x20) ((rlog_m (Dk.mk l11 l15 x19 x20)) + (l.getD x10 dWr).at_) ((l.getD x10 dWr).data)).1).loose), ((rput_m (Dk.mk l11 l15 x19 x20) ((rlog_m (Dk.mk l11 l15 x19 x20)) + (l.getD x10 dWr).at_) ((l.getD x10 dWr).data)).1).fuse, (((rput_m (Dk.mk l11 l15 x19 x20) ((rlog_m (Dk.mk l11 l15 x19 x20)) + (l.getD x10 dWr).at_) ((l.getD x10 dWr).data)).1).down), l21, l25, x29, x30)
 else
  .inl (x10, l11, l15, x19, x20, l21, l25, x29, x30)
def place_m_l0 (d : Dk) (epoch : Int) (l : List Wr) : Nat → Nat × (List (List UInt8)) × (List Wr) × Int × Bool × (List (List UInt8)) × (List Wr) × Nat × Bool → Sum (Nat × (List (List UInt8)) × (List Wr) × Int × Bool × (List (List UInt8)) × (List Wr) × Nat × Bool) (Dk × Int)
 | 0, zz => .inl zz
 | nq + 1, zz => place_m_b0 d epoch l (place_m_l0 d epoch l nq) zz.1 zz.2.1 zz.2.2.1 zz.2.2.2.1 zz.2.2.2.2.1 zz.2.2.2.2.2.1 zz.2.2.2.2.2.2.1 zz.2.2.2.2.2.2.2.1 zz.2.2.2.2.2.2.2.2
def place_m_k0 (d : Dk) (epoch : Int) (l : List Wr) (y46 : Nat) (y47 : List (List UInt8)) (y50 : List Wr) (y53 : Int) (y54 : Bool) (y55 : List (List UInt8)) (y58 : List Wr) (y61 : Nat) (y62 : Bool) : Dk × Int :=
 if ¬ (rflush_m (Dk.mk y47 y50 y53 y54)).2 = 0 then
  (((rflush_m (Dk.mk y47 y50 y53 y54)).1), (rflush_m (Dk.mk y47 y50 y53 y54)).2)
 else
  (((rall_m ((rflush_m (Dk.mk y47 y50 y53 y54)).1) 0 ([(rhead_m (epoch + (1 : Int)))] : List (List UInt8))).1), (rall_m ((rflush_m (Dk.mk y47 y50 y53 y54)).1) 0 ([(rhead_m (epoch + (1 : Int)))] : List (List UInt8))).2)
def place_m (d : Dk) (epoch : Int) (l : List Wr) : Dk × Int :=
 fin (place_m_l0 d epoch l ((l.length - 0) + 1) (0, d.safe, d.loose, d.fuse, d.down, ([] : List (List UInt8)), ([] : List Wr), 0, false)) (fun r => r) (fun zz => place_m_k0 d epoch l zz.1 zz.2.1 zz.2.2.1 zz.2.2.2.1 zz.2.2.2.2.1 zz.2.2.2.2.2.1 zz.2.2.2.2.2.2.1 zz.2.2.2.2.2.2.2.1 zz.2.2.2.2.2.2.2.2)
theorem place_any (d : Dk) (epoch : Int) (l : List Wr) (dv0 : Value) (dv1 : Value) (lv0 : Value) (S : Nat → Prop) (w : World) (hd : From S (DkR d dv0 dv1) w) (hl : From S (Rs eWr 2 l lv0) w) (hp0 : d.safe.length ≤ 8796093021952) (hp1 : d.loose.length ≤ 5864064000000) (hp2 : d.fuse ≤ 9223372036854775807) (hp3 : l.length ≤ 100000) (hp4 : -9223372036854775808 ≤ epoch) (hp5 : epoch ≤ 9223372036854775806) (hp6 : ∀ x ∈ l, -1000000 ≤ x.at_ ∧ x.at_ ≤ 1000000) : Calls Tryd.prog 53 #[.agg #[dv0, dv1, J (d.fuse), .bool (d.down)], J (epoch), lv0] w (fun e w' => (∃ v, e = .returned v ∧ ∃ (o0 : Value) (o1 : Value), v = .tuple #[.agg #[o0, o1, J (((place_m d epoch l).1).fuse), .bool (((place_m d epoch l).1).down)], J ((place_m d epoch l).2)] ∧ Gives w w' S (DkR ((place_m d epoch l).1) o0 o1)) ∧ Below w.heap.size w w') := by
 go_enter Tryd.func53, Tryd.ntmps53
 have hm00 := Mm.nil none S w
 obtain ⟨Fd, hm01⟩ := hm00.come hd
 obtain ⟨Fl, hm02⟩ := hm01.come hl
 have hm0 := hm02
 refine wk (fun K1 hK1 => (wq ?_))
 refine lst rfl (m_alloc (c := #[dv0, dv1, J (d.fuse), .bool (d.down)]) (T := 25) hm0 3 rfl (run_box rfl rfl) (fun g4 w2 hm3 => ?_))
 simp only [nz]
 refine lst rfl (m_alloc (c := #[.slice none 0 0, .slice none 0 0, J 0, .bool false]) (T := 25) hm3 6 rfl (by unfold execOp; go_simp; try rfl) (fun g7 w5 hm6 => ?_))
 simp only [nz]
 refine la 7 (J 0) ?_
 simp only [nz]
 refine wn (tj (hK1 _ _ (wk (fun K8 hK8 => (wk (fun K9 hK9 => (wq ?_)))))))
 refine la 8 (J 0) ?_
 simp only [nz]
 refine wn (tj (hK9 _ _ ?_))
 obtain ⟨F31, hm32⟩ : ∃ F31, Mm none S w w5 [.see (DkR d dv0 dv1) Fd, .see (Rs eWr 2 l lv0) Fl, .blk g4 #[dv0, dv1, J (d.fuse), .bool (d.down)] 25, .blk g7 #[.slice none 0 0, .slice none 0 0, J 0, .bool false] 25, .see (Rs eS 1 d.safe dv0) F31] := hm6.derive ((hm6.from 0 rfl).mono (fun _ h => h.1))
 obtain ⟨F34, hm35⟩ : ∃ F34, Mm none S w w5 [.see (DkR d dv0 dv1) Fd, .see (Rs eWr 2 l lv0) Fl, .blk g4 #[dv0, dv1, J (d.fuse), .bool (d.down)] 25, .blk g7 #[.slice none 0 0, .slice none 0 0, J 0, .bool false] 25, .see (Rs eS 1 d.safe dv0) F31, .see (Rs eWr 2 d.loose dv1) F34] := hm32.derive ((hm32.from 0 rfl).mono (fun _ h => h.2))
 obtain ⟨F37, hm38⟩ : ∃ F37, Mm none S w w5 [.see (DkR d dv0 dv1) Fd, .see (Rs eWr 2 l lv0) Fl, .blk g4 #[dv0, dv1, J (d.fuse), .bool (d.down)] 25, .blk g7 #[.slice none 0 0, .slice none 0 0, J 0, .bool false] 25, .see (Rs eS 1 d.safe dv0) F31, .see (Rs eWr 2 d.loose dv1) F34, .see (Rs eS 1 ([] : List (List UInt8)) (.slice none 0 0)) F37] := hm35.derive (From.pure (fun W => Rs.nil eS 1 W))
 obtain ⟨F40, hm41⟩ : ∃ F40, Mm none S w w5 [.see (DkR d dv0 dv1) Fd, .see (Rs eWr 2 l lv0) Fl, .blk g4 #[dv0, dv1, J (d.fuse), .bool (d.down)] 25, .blk g7 #[.slice none 0 0, .slice none 0 0, J 0, .bool false] 25, .see (Rs eS 1 d.safe dv0) F31, .see (Rs eWr 2 d.loose dv1) F34, .see (Rs eS 1 ([] : List (List UInt8)) (.slice none 0 0)) F37, .see (Rs eWr 2 ([] : List Wr) (.slice none 0 0)) F40] := hm38.derive (From.pure (fun W => Rs.nil eWr 2 W))
 refine wp_cutK (fun a' w' => ∃ (y46 : Nat) (y47 : List (List UInt8)) (y50 : List Wr) (y53 : Int) (y54 : Bool) (y55 : List (List UInt8)) (y58 : List Wr) (y61 : Nat) (y62 : Bool) (v48 : Value) (F49 : Nat → Prop) (v51 : Value) (F52 : Nat → Prop) (v56 : Value) (F57 : Nat → Prop) (v59 : Value) (F60 : Nat → Prop) (yu0 : Nat → Value), place_m_l0 d epoch l ((l.length - 0) + 1) (0, d.safe, d.loose, d.fuse, d.down, ([] : List (List UInt8)), ([] : List Wr), 0, false) = .inl (y46, y47, y50, y53, y54, y55, y58, y61, y62) ∧ (y47.length = d.safe.length ∧ y50.length ≤ d.loose.length + y46 ∧ y53 ≤ 9223372036854775807 ∧ y46 ≤ l.length) ∧ a' = ⟨#[.agg #[dv0, dv1, J (d.fuse), .bool (d.down)], J (epoch), lv0, Pp g4 0, undef, undef, Pp g7 0, yu0 0, J (y46 : Int), yu0 1, yu0 2, undef, yu0 3, yu0 4, yu0 5, yu0 6, yu0 7, yu0 8, yu0 9, yu0 10, yu0 11, yu0 12, yu0 13, yu0 14, yu0 15, yu0 16, yu0 17, yu0 18, yu0 19, yu0 20, yu0 21, yu0 22, yu0 23, yu0 24, yu0 25, yu0 26, yu0 27, yu0 28, yu0 29, yu0 30, yu0 31, undef, undef, undef, undef, undef, undef, undef, undef, undef, undef, undef, undef, undef, undef, undef, undef, undef], []⟩ ∧ Mm none S w w' [.see (DkR d dv0 dv1) Fd, .see (Rs eWr 2 l lv0) Fl, .blk g4 #[v48, v51, J (y53), .bool (y54)] 25, .blk g7 #[v56, v59, J (y61 : Int), .bool (y62)] 25, .see (Rs eS 1 y47 v48) F49, .see (Rs eWr 2 y50 v51) F52, .see (Rs eS 1 y55 v56) F57, .see (Rs eWr 2 y58 v59) F60]) ?_ ?_
 ·refine wp_block ?_
  refine wp_loop_n (fun n' a' w' => ∃ (n43 : Nat) (x10 : Nat) (l11 : List (List UInt8)) (l15 : List Wr) (x19 : Int) (x20 : Bool) (l21 : List (List UInt8)) (l25 : List Wr) (x29 : Nat) (x30 : Bool) (v12 : Value) (F13 : Nat → Prop) (v16 : Value) (F17 : Nat → Prop) (v22 : Value) (F23 : Nat → Prop) (v26 : Value) (F27 : Nat → Prop) (u0 : Nat → Value), n' = n43 ∧ (l.length - x10) < n43 ∧ place_m_l0 d epoch l ((l.length - 0) + 1) (0, d.safe, d.loose, d.fuse, d.down, ([] : List (List UInt8)), ([] : List Wr), 0, false) = place_m_l0 d epoch l n43 (x10, l11, l15, x19, x20, l21, l25, x29, x30) ∧ (l11.length = d.safe.length ∧ l15.length ≤ d.loose.length + x10 ∧ x19 ≤ 9223372036854775807 ∧ x10 ≤ l.length) ∧ a' = ⟨#[.agg #[dv0, dv1, J (d.fuse), .bool (d.down)], J (epoch), lv0, Pp g4 0, undef, undef, Pp g7 0, u0 0, J (x10 : Int), u0 1, u0 2, undef, u0 3, u0 4, u0 5, u0 6, u0 7, u0 8, u0 9, u0 10, u0 11, u0 12, u0 13, u0 14, u0 15, u0 16, u0 17, u0 18, u0 19, u0 20, u0 21, u0 22, u0 23, u0 24, u0 25, u0 26, u0 27, u0 28, u0 29, u0 30, u0 31, undef, undef, undef, undef, undef, undef, undef, undef, undef, undef, undef, undef, undef, undef, undef, undef, undef], []⟩ ∧ Mm none S w w' [.see (DkR d dv0 dv1) Fd, .see (Rs eWr 2 l lv0) Fl, .blk g4 #[v12, v16, J (x19), .bool (x20)] 25, .blk g7 #[v22, v26, J (x29 : Int), .bool (x30)] 25, .see (Rs eS 1 l11 v12) F13, .see (Rs eWr 2 l15 v16) F17, .see (Rs eS 1 l21 v22) F23, .see (Rs eWr 2 l25 v26) F27]) ⟨((l.length - 0) + 1), 0, d.safe, d.loose, d.fuse, d.down, ([] : List (List UInt8)), ([] : List Wr), 0, false, dv0, F31, dv1, F34, .slice none 0 0, F37, .slice none 0 0, F40, (fun qq => bif Nat.blt qq 24 then List.getD [J 0, undef, undef, undef, undef, undef, undef, undef, undef, undef, undef, undef, undef, undef, undef, undef, undef, undef, undef, undef, undef, undef, undef, undef] qq undef else List.getD [undef, undef, undef, undef, undef, undef, undef, undef] (qq - 24) undef), rfl, Nat.lt_succ_self _, rfl, (by omega), rfl, hm41⟩ ?_
  rintro n43 _ w64 ⟨_, x10, l11, l15, x19, x20, l21, l25, x29, x30, v12, F13, v16, F17, v22, F23, v26, F27, u0, rfl, hl68, hi45, hbr, rfl, hm65⟩ R66 hR66
  obtain ⟨k44, rfl⟩ : ∃ k, n43 = k + 1 := ⟨n43 - 1, by omega⟩
  refine wk (fun K69 hK69 => (wk (fun K70 hK70 => (wq ?_))))
  refine lm 12 (J (x10 : Int)) ?_
  refine lm 13 (lv0) ?_
  refine lw 14 (J (l.length : Int)) (s_len ((hm65.see 1 rfl)) rfl Tryd.underlying23 rfl) ?_
  simp only [nz]
  refine lw 15 (.bool (decide (x10 < l.length))) (r_lss x10 l.length rfl rfl rfl) ?_
  simp only [nz]
  refine wn (tj (hK70 _ _ ?_))
  refine cond_d (x10 < l.length) rfl (fun hc71 => ?_) (fun hc71 => ?_)
  rotate_left
  ·refine wp_exit (then_x (then_x (blk_x ?_)))
   refine tj ?_
   obtain ⟨F177, hm178⟩ := hm65.derive (hm65.from 4 rfl)
   obtain ⟨F180, hm181⟩ := hm178.derive (hm178.from 5 rfl)
   obtain ⟨F183, hm184⟩ := hm181.derive (hm181.from 6 rfl)
   obtain ⟨F186, hm187⟩ := hm184.derive (hm184.from 7 rfl)
   exact ⟨x10, l11, l15, x19, x20, l21, l25, x29, x30, v12, F177, v16, F180, v22, F183, v26, F186, (fun qq => bif Nat.blt qq 24 then List.getD [u0 0, u0 1, u0 2, J (x10 : Int), lv0, J (l.length : Int), .bool (decide (x10 < l.length)), u0 7, u0 8, u0 9, u0 10, u0 11, u0 12, u0 13, u0 14, u0 15, u0 16, u0 17, u0 18, u0 19, u0 20, u0 21, u0 22, u0 23] qq undef else List.getD [u0 24, u0 25, u0 26, u0 27, u0 28, u0 29, u0 30, u0 31] (qq - 24) undef), (hi45.trans (show place_m_b0 d epoch l (place_m_l0 d epoch l k44) x10 l11 l15 x19 x20 l21 l25 x29 x30 = .inl (x10, l11, l15, x19, x20, l21, l25, x29, x30) from by unfold place_m_b0; rw [if_neg hc71] <;> rfl)), (by omega), rfl, (Mm.reorder hm187 [0, 1, 2, 3, 8, 9, 10, 11] (by decide) rfl)⟩
  refine wp_skip (tj (hK69 _ _ (wk (fun K72 hK72 => ?_))))
  refine wp_block ?_
  refine wk (fun K73 hK73 => ?_)
  refine wp_mono (Q := fun e a' w' => e = Exit.normal ∧ ∃ (v81 : Value) (v82 : Value) (F84 : Nat → Prop) (g95 : Nat), a' = ⟨#[.agg #[dv0, dv1, J (d.fuse), .bool (d.down)], J (epoch), lv0, Pp g4 0, undef, undef, Pp g7 0, u0 0, J (x10 : Int), Pp g95 0, J ((rput_m (Dk.mk l11 l15 x19 x20) ((rlog_m (Dk.mk l11 l15 x19 x20)) + (l.getD x10 dWr).at_) ((l.getD x10 dWr).data)).2), undef, J (x10 : Int), lv0, J (l.length : Int), .bool (decide (x10 < l.length)), u0 7, u0 8, .tuple #[.agg #[v81, v82, J (((rput_m (Dk.mk l11 l15 x19 x20) ((rlog_m (Dk.mk l11 l15 x19 x20)) + (l.getD x10 dWr).at_) ((l.getD x10 dWr).data)).1).fuse), .bool (((rput_m (Dk.mk l11 l15 x19 x20) ((rlog_m (Dk.mk l11 l15 x19 x20)) + (l.getD x10 dWr).at_) ((l.getD x10 dWr).data)).1).down)], J ((rput_m (Dk.mk l11 l15 x19 x20) ((rlog_m (Dk.mk l11 l15 x19 x20)) + (l.getD x10 dWr).at_) ((l.getD x10 dWr).data)).2)], .agg #[v12, v16, J (x19), .bool (x20)], .agg #[v12, v16, J (x19), .bool (x20)], J ((rlog_m (Dk.mk l11 l15 x19 x20))), lv0, J (x10 : Int), .pointer (some ⟨(bk lv0), (po lv0 + x10 * 2), none⟩), .pointer (some ⟨(bk lv0), ((po lv0 + x10 * 2) + 0), none⟩), J ((l.getD x10 dWr).at_), J (((rlog_m (Dk.mk l11 l15 x19 x20)) + (l.getD x10 dWr).at_)), lv0, J (x10 : Int), .pointer (some ⟨(bk lv0), (po lv0 + x10 * 2), none⟩), .pointer (some ⟨(bk lv0), ((po lv0 + x10 * 2) + 1), none⟩), .string (tx ((l.getD x10 dWr).data)), .tuple #[.agg #[v81, v82, J (((rput_m (Dk.mk l11 l15 x19 x20) ((rlog_m (Dk.mk l11 l15 x19 x20)) + (l.getD x10 dWr).at_) ((l.getD x10 dWr).data)).1).fuse), .bool (((rput_m (Dk.mk l11 l15 x19 x20) ((rlog_m (Dk.mk l11 l15 x19 x20)) + (l.getD x10 dWr).at_) ((l.getD x10 dWr).data)).1).down)], J ((rput_m (Dk.mk l11 l15 x19 x20) ((rlog_m (Dk.mk l11 l15 x19 x20)) + (l.getD x10 dWr).at_) ((l.getD x10 dWr).data)).2)], .agg #[v81, v82, J (((rput_m (Dk.mk l11 l15 x19 x20) ((rlog_m (Dk.mk l11 l15 x19 x20)) + (l.getD x10 dWr).at_) ((l.getD x10 dWr).data)).1).fuse), .bool (((rput_m (Dk.mk l11 l15 x19 x20) ((rlog_m (Dk.mk l11 l15 x19 x20)) + (l.getD x10 dWr).at_) ((l.getD x10 dWr).data)).1).down)], J ((rput_m (Dk.mk l11 l15 x19 x20) ((rlog_m (Dk.mk l11 l15 x19 x20)) + (l.getD x10 dWr).at_) ((l.getD x10 dWr).data)).2), u0 27, u0 28, u0 29, u0 30, u0 31, undef, undef, undef, undef, undef, undef, undef, undef, undef, undef, undef, undef, undef, undef, undef, undef, undef], []⟩ ∧ Mm none S w w' [.see (DkR d dv0 dv1) Fd, .see (Rs eWr 2 l lv0) Fl, .blk g4 #[v12, v16, J (x19), .bool (x20)] 25, .blk g7 #[v22, v26, J (x29 : Int), .bool (x30)] 25, .see (Rs eS 1 l11 v12) F13, .see (Rs eWr 2 l15 v16) F17, .see (Rs eS 1 l21 v22) F23, .see (Rs eWr 2 l25 v26) F27, .see (DkR ((rput_m (Dk.mk l11 l15 x19 x20) ((rlog_m (Dk.mk l11 l15 x19 x20)) + (l.getD x10 dWr).at_) ((l.getD x10 dWr).data)).1) v81 v82) F84, .blk g95 #[v81, v82, J (((rput_m (Dk.mk l11 l15 x19 x20) ((rlog_m (Dk.mk l11 l15 x19 x20)) + (l.getD x10 dWr).at_) ((l.getD x10 dWr).data)).1).fuse), .bool (((rput_m (Dk.mk l11 l15 x19 x20) ((rlog_m (Dk.mk l11 l15 x19 x20)) + (l.getD x10 dWr).at_) ((l.getD x10 dWr).data)).1).down)] 25]) ?_ ?_
  ·have hm74 := hm65.drew
   refine wp_region_held_drew (S := fun w' => Mem.Blk w' g4 (#[v12, v16, J (x19), .bool (x20)]) 25 ∧ Rs eWr 2 l lv0 w') (by kernel_rfl) (⟨hm74.at 2 rfl, ((hm74.see 1 rfl))⟩) (fun _ => ?_)
   generalize w64.drew = w75 at *
   refine tn 0 19 (.agg #[v12, v16, J (x19), .bool (x20)]) rfl rfl (fun _ hw => r_whole hw.1 Tryd.underlying25 rfl (by exact sz_25) rfl rfl) (⟨hm74.at 2 rfl, ((hm74.see 1 rfl))⟩) ?_
   simp only [nz]
   refine tn 1 20 (.agg #[v12, v16, J (x19), .bool (x20)]) rfl rfl (fun _ hw => r_whole hw.1 Tryd.underlying25 rfl (by exact sz_25) rfl rfl) (⟨hm74.at 2 rfl, ((hm74.see 1 rfl))⟩) ?_
   simp only [nz]
   refine tn 3 22 (lv0) rfl rfl (fun _ hw => run_mv rfl rfl) (⟨hm74.at 2 rfl, ((hm74.see 1 rfl))⟩) ?_
   simp only [nz]
   refine tn 4 23 (J (x10 : Int)) rfl rfl (fun _ hw => run_mv rfl rfl) (⟨hm74.at 2 rfl, ((hm74.see 1 rfl))⟩) ?_
   simp only [nz]
   refine tn 5 24 (.pointer (some ⟨(bk lv0), (po lv0 + x10 * 2), none⟩)) rfl rfl (fun _ hw => r_ixv ((hm74.see 1 rfl)) x10 (by omega) Tryd.underlying23 sz_51 rfl rfl rfl) (⟨hm74.at 2 rfl, ((hm74.see 1 rfl))⟩) ?_
   simp only [nz]
   refine tn 6 25 (.pointer (some ⟨(bk lv0), ((po lv0 + x10 * 2) + 0), none⟩)) rfl rfl (fun _ hw => r_fa51_0 (bk lv0) (po lv0 + x10 * 2) rfl rfl) (⟨hm74.at 2 rfl, ((hm74.see 1 rfl))⟩) ?_
   simp only [nz]
   refine tn 7 26 (J ((l.getD x10 dWr).at_)) rfl rfl (fun _ hw => r_cellw (Rs.cell hw.2 eWr_len dWr x10 (by omega) 0 _ rfl) Tryd.underlying3 rfl rfl rfl) (⟨hm74.at 2 rfl, ((hm74.see 1 rfl))⟩) ?_
   simp only [nz]
   refine tn 9 28 (lv0) rfl rfl (fun _ hw => run_mv rfl rfl) (⟨hm74.at 2 rfl, ((hm74.see 1 rfl))⟩) ?_
   simp only [nz]
   refine tn 10 29 (J (x10 : Int)) rfl rfl (fun _ hw => run_mv rfl rfl) (⟨hm74.at 2 rfl, ((hm74.see 1 rfl))⟩) ?_
   simp only [nz]
   refine tn 11 30 (.pointer (some ⟨(bk lv0), (po lv0 + x10 * 2), none⟩)) rfl rfl (fun _ hw => r_ixv ((hm74.see 1 rfl)) x10 (by omega) Tryd.underlying23 sz_51 rfl rfl rfl) (⟨hm74.at 2 rfl, ((hm74.see 1 rfl))⟩) ?_
   simp only [nz]
   refine tn 12 31 (.pointer (some ⟨(bk lv0), ((po lv0 + x10 * 2) + 1), none⟩)) rfl rfl (fun _ hw => r_fa51_1 (bk lv0) (po lv0 + x10 * 2) rfl rfl) (⟨hm74.at 2 rfl, ((hm74.see 1 rfl))⟩) ?_
   simp only [nz]
   refine tn 13 32 (.string (tx ((l.getD x10 dWr).data))) rfl rfl (fun _ hw => r_cellw (Rs.cell hw.2 eWr_len dWr x10 (by omega) 1 _ rfl) Tryd.underlying9 rfl rfl rfl) (⟨hm74.at 2 rfl, ((hm74.see 1 rfl))⟩) ?_
   simp only [nz]
   refine two_ready 2 18 (by kernel_rfl) ?_ ?_
   ·refine opd rfl rfl (m_call hm74 21 (J ((rlog_m (Dk.mk l11 l15 x19 x20)))) rfl (run_rlog rfl rfl) (rlog_any (Dk.mk l11 l15 x19 x20) v12 v16 _ ⟨(hm74.see 4 rfl), (hm74.see 5 rfl)⟩ (by simp; omega) (by simp; omega)) (fun w76 hm77 => ?_))
    have hf78 : (rlog_m (Dk.mk l11 l15 x19 x20)) = (((l11.length / 4 : Nat)) : Int) := rlog_len (Dk.mk l11 l15 x19 x20)
    refine ⟨⟨hm77.at 2 rfl, ((hm77.see 1 rfl))⟩, ?_⟩
    simp only [nz]
    refine tn 8 27 (J (((rlog_m (Dk.mk l11 l15 x19 x20)) + (l.getD x10 dWr).at_))) rfl rfl (fun _ hw => z_add (rlog_m (Dk.mk l11 l15 x19 x20)) ((l.getD x10 dWr).at_) _ (by have hz := ats_of (l := l) (by assumption) x10 (by omega); rw [IntKind.wrap_i64]; omega) rfl rfl rfl) (⟨hm77.at 2 rfl, ((hm77.see 1 rfl))⟩) ?_
    simp only [nz]
    refine two_ready 14 18 (by kernel_rfl) ?_ ?_
    ·refine opd rfl rfl (m_callx hm77 33 rfl (run_rput rfl rfl rfl rfl) (rput_any (Dk.mk l11 l15 x19 x20) ((rlog_m (Dk.mk l11 l15 x19 x20)) + (l.getD x10 dWr).at_) ((l.getD x10 dWr).data) v12 v16 (seeS _) _ ((hm77.from 4 rfl).and (hm77.from 5 rfl)) (by simp; omega) (by simp; omega) (by simp; omega)) (fun vv85 w79 hR86 hb87 hm80 => ?_))
     obtain ⟨v81, v82, rfl, hg88⟩ := hR86
     obtain ⟨F84, hm89⟩ : ∃ F84, Mm none S w w79 [.see (DkR d dv0 dv1) Fd, .see (Rs eWr 2 l lv0) Fl, .blk g4 #[v12, v16, J (x19), .bool (x20)] 25, .blk g7 #[v22, v26, J (x29 : Int), .bool (x30)] 25, .see (Rs eS 1 l11 v12) F13, .see (Rs eWr 2 l15 v16) F17, .see (Rs eS 1 l21 v22) F23, .see (Rs eWr 2 l25 v26) F27, .see (DkR ((rput_m (Dk.mk l11 l15 x19 x20) ((rlog_m (Dk.mk l11 l15 x19 x20)) + (l.getD x10 dWr).at_) ((l.getD x10 dWr).data)).1) v81 v82) F84] := Mm.tookS hm77 hb87 hg88
     clear hm80 hg88 hb87
     have hf90 : (rput_m (Dk.mk l11 l15 x19 x20) ((rlog_m (Dk.mk l11 l15 x19 x20)) + (l.getD x10 dWr).at_) ((l.getD x10 dWr).data)).1.safe.length = l11.length := (rput_near (Dk.mk l11 l15 x19 x20) ((rlog_m (Dk.mk l11 l15 x19 x20)) + (l.getD x10 dWr).at_) ((l.getD x10 dWr).data)).1
     have hf91 : (rput_m (Dk.mk l11 l15 x19 x20) ((rlog_m (Dk.mk l11 l15 x19 x20)) + (l.getD x10 dWr).at_) ((l.getD x10 dWr).data)).1.loose.length ≤ l15.length + 1 := (rput_near (Dk.mk l11 l15 x19 x20) ((rlog_m (Dk.mk l11 l15 x19 x20)) + (l.getD x10 dWr).at_) ((l.getD x10 dWr).data)).2.1
     have hf92 : (rput_m (Dk.mk l11 l15 x19 x20) ((rlog_m (Dk.mk l11 l15 x19 x20)) + (l.getD x10 dWr).at_) ((l.getD x10 dWr).data)).1.fuse ≤ 9223372036854775807 := (rput_near (Dk.mk l11 l15 x19 x20) ((rlog_m (Dk.mk l11 l15 x19 x20)) + (l.getD x10 dWr).at_) ((l.getD x10 dWr).data)).2.2 (show x19 ≤ 9223372036854775807 from (by omega))
     refine ⟨⟨hm89.at 2 rfl, ((hm89.see 1 rfl))⟩, ?_⟩
     simp only [nz]
     refine tn 15 18 (.tuple #[.agg #[v81, v82, J (((rput_m (Dk.mk l11 l15 x19 x20) ((rlog_m (Dk.mk l11 l15 x19 x20)) + (l.getD x10 dWr).at_) ((l.getD x10 dWr).data)).1).fuse), .bool (((rput_m (Dk.mk l11 l15 x19 x20) ((rlog_m (Dk.mk l11 l15 x19 x20)) + (l.getD x10 dWr).at_) ((l.getD x10 dWr).data)).1).down)], J ((rput_m (Dk.mk l11 l15 x19 x20) ((rlog_m (Dk.mk l11 l15 x19 x20)) + (l.getD x10 dWr).at_) ((l.getD x10 dWr).data)).2)]) rfl rfl (fun _ hw => run_mv rfl rfl) (⟨hm89.at 2 rfl, ((hm89.see 1 rfl))⟩) ?_
     simp only [nz]
     refine tn 16 34 (.agg #[v81, v82, J (((rput_m (Dk.mk l11 l15 x19 x20) ((rlog_m (Dk.mk l11 l15 x19 x20)) + (l.getD x10 dWr).at_) ((l.getD x10 dWr).data)).1).fuse), .bool (((rput_m (Dk.mk l11 l15 x19 x20) ((rlog_m (Dk.mk l11 l15 x19 x20)) + (l.getD x10 dWr).at_) ((l.getD x10 dWr).data)).1).down)]) rfl rfl (fun _ hw => run_ex rfl rfl rfl) (⟨hm89.at 2 rfl, ((hm89.see 1 rfl))⟩) ?_
     simp only [nz]
     refine tn 17 35 (J ((rput_m (Dk.mk l11 l15 x19 x20) ((rlog_m (Dk.mk l11 l15 x19 x20)) + (l.getD x10 dWr).at_) ((l.getD x10 dWr).data)).2)) rfl rfl (fun _ hw => run_ex rfl rfl rfl) (⟨hm89.at 2 rfl, ((hm89.see 1 rfl))⟩) ?_
     simp only [nz]
     refine one_ready 18 (by kernel_rfl) ?_
     refine opd rfl rfl (m_alloc (c := #[.slice none 0 0, .slice none 0 0, J 0, .bool false]) (T := 25) hm89 9 rfl (by unfold execOp; go_simp; try rfl) (fun g95 w93 hm94 => ?_))
     refine ⟨⟨hm94.at 2 rfl, ((hm94.see 1 rfl))⟩, ?_⟩
     simp only [nz]
     refine one_ready 19 (by kernel_rfl) ?_
     have ho98 := (rd_one ((hm94.see 8 rfl).1))
     have ho99 := (rd_one ((hm94.see 8 rfl).2))
     refine opd rfl rfl (m_store 9 25 _ _ 0 (.agg #[v81, v82, J (((rput_m (Dk.mk l11 l15 x19 x20) ((rlog_m (Dk.mk l11 l15 x19 x20)) + (l.getD x10 dWr).at_) ((l.getD x10 dWr).data)).1).fuse), .bool (((rput_m (Dk.mk l11 l15 x19 x20) ((rlog_m (Dk.mk l11 l15 x19 x20)) + (l.getD x10 dWr).at_) ((l.getD x10 dWr).data)).1).down)]) (old := #[.slice none 0 0, .slice none 0 0, J 0, .bool false]) (new := #[v81, v82, J (((rput_m (Dk.mk l11 l15 x19 x20) ((rlog_m (Dk.mk l11 l15 x19 x20)) + (l.getD x10 dWr).at_) ((l.getD x10 dWr).data)).1).fuse), .bool (((rput_m (Dk.mk l11 l15 x19 x20) ((rlog_m (Dk.mk l11 l15 x19 x20)) + (l.getD x10 dWr).at_) ((l.getD x10 dWr).data)).1).down)]) hm94 rfl rfl rfl rfl rfl (by exact sz_25) (show 0 + 4 ≤ 4 from by decide) a4 rfl (fun w96 hm97 => ?_))
     refine ⟨⟨hm97.at 2 rfl, ((hm97.see 1 rfl))⟩, ?_⟩
     refine one_ready 20 (by kernel_rfl) ?_
     refine opd rfl rfl (w_value 10 (J ((rput_m (Dk.mk l11 l15 x19 x20) ((rlog_m (Dk.mk l11 l15 x19 x20)) + (l.getD x10 dWr).at_) ((l.getD x10 dWr).data)).2)) rfl (run_as rfl rfl) ⟨⟨hm97.at 2 rfl, ((hm97.see 1 rfl))⟩, ?_⟩)
     simp only [nz]
     refine wpAnyH_done (by kernel_rfl) ?_ _
     exact ⟨rfl, v81, v82, F84, g95, rfl, hm97⟩
    refine opd rfl rfl (m_alloc (c := #[.slice none 0 0, .slice none 0 0, J 0, .bool false]) (T := 25) hm77 9 rfl (by unfold execOp; go_simp; try rfl) (fun g102 w100 hm101 => ?_))
    refine ⟨⟨hm101.at 2 rfl, ((hm101.see 1 rfl))⟩, ?_⟩
    simp only [nz]
    refine one_ready 14 (by kernel_rfl) ?_
    refine opd rfl rfl (m_callx hm101 33 rfl (run_rput rfl rfl rfl rfl) (rput_any (Dk.mk l11 l15 x19 x20) ((rlog_m (Dk.mk l11 l15 x19 x20)) + (l.getD x10 dWr).at_) ((l.getD x10 dWr).data) v12 v16 (seeS _) _ ((hm101.from 4 rfl).and (hm101.from 5 rfl)) (by simp; omega) (by simp; omega) (by simp; omega)) (fun vv109 w103 hR110 hb111 hm104 => ?_))
    obtain ⟨v105, v106, rfl, hg112⟩ := hR110
    obtain ⟨F108, hm113⟩ : ∃ F108, Mm none S w w103 [.see (DkR d dv0 dv1) Fd, .see (Rs eWr 2 l lv0) Fl, .blk g4 #[v12, v16, J (x19), .bool (x20)] 25, .blk g7 #[v22, v26, J (x29 : Int), .bool (x30)] 25, .see (Rs eS 1 l11 v12) F13, .see (Rs eWr 2 l15 v16) F17, .see (Rs eS 1 l21 v22) F23, .see (Rs eWr 2 l25 v26) F27, .blk g102 #[.slice none 0 0, .slice none 0 0, J 0, .bool false] 25, .see (DkR ((rput_m (Dk.mk l11 l15 x19 x20) ((rlog_m (Dk.mk l11 l15 x19 x20)) + (l.getD x10 dWr).at_) ((l.getD x10 dWr).data)).1) v105 v106) F108] := Mm.tookS hm101 hb111 hg112
    clear hm104 hg112 hb111
    have hf114 : (rput_m (Dk.mk l11 l15 x19 x20) ((rlog_m (Dk.mk l11 l15 x19 x20)) + (l.getD x10 dWr).at_) ((l.getD x10 dWr).data)).1.safe.length = l11.length := (rput_near (Dk.mk l11 l15 x19 x20) ((rlog_m (Dk.mk l11 l15 x19 x20)) + (l.getD x10 dWr).at_) ((l.getD x10 dWr).data)).1
    have hf115 : (rput_m (Dk.mk l11 l15 x19 x20) ((rlog_m (Dk.mk l11 l15 x19 x20)) + (l.getD x10 dWr).at_) ((l.getD x10 dWr).data)).1.loose.length ≤ l15.length + 1 := (rput_near (Dk.mk l11 l15 x19 x20) ((rlog_m (Dk.mk l11 l15 x19 x20)) + (l.getD x10 dWr).at_) ((l.getD x10 dWr).data)).2.1
    have hf116 : (rput_m (Dk.mk l11 l15 x19 x20) ((rlog_m (Dk.mk l11 l15 x19 x20)) + (l.getD x10 dWr).at_) ((l.getD x10 dWr).data)).1.fuse ≤ 9223372036854775807 := (rput_near (Dk.mk l11 l15 x19 x20) ((rlog_m (Dk.mk l11 l15 x19 x20)) + (l.getD x10 dWr).at_) ((l.getD x10 dWr).data)).2.2 (show x19 ≤ 9223372036854775807 from (by omega))
    refine ⟨⟨hm113.at 2 rfl, ((hm113.see 1 rfl))⟩, ?_⟩
    simp only [nz]
    refine tn 15 18 (.tuple #[.agg #[v105, v106, J (((rput_m (Dk.mk l11 l15 x19 x20) ((rlog_m (Dk.mk l11 l15 x19 x20)) + (l.getD x10 dWr).at_) ((l.getD x10 dWr).data)).1).fuse), .bool (((rput_m (Dk.mk l11 l15 x19 x20) ((rlog_m (Dk.mk l11 l15 x19 x20)) + (l.getD x10 dWr).at_) ((l.getD x10 dWr).data)).1).down)], J ((rput_m (Dk.mk l11 l15 x19 x20) ((rlog_m (Dk.mk l11 l15 x19 x20)) + (l.getD x10 dWr).at_) ((l.getD x10 dWr).data)).2)]) rfl rfl (fun _ hw => run_mv rfl rfl) (⟨hm113.at 2 rfl, ((hm113.see 1 rfl))⟩) ?_
    simp only [nz]
    refine tn 16 34 (.agg #[v105, v106, J (((rput_m (Dk.mk l11 l15 x19 x20) ((rlog_m (Dk.mk l11 l15 x19 x20)) + (l.getD x10 dWr).at_) ((l.getD x10 dWr).data)).1).fuse), .bool (((rput_m (Dk.mk l11 l15 x19 x20) ((rlog_m (Dk.mk l11 l15 x19 x20)) + (l.getD x10 dWr).at_) ((l.getD x10 dWr).data)).1).down)]) rfl rfl (fun _ hw => run_ex rfl rfl rfl) (⟨hm113.at 2 rfl, ((hm113.see 1 rfl))⟩) ?_
    simp only [nz]
    refine tn 17 35 (J ((rput_m (Dk.mk l11 l15 x19 x20) ((rlog_m (Dk.mk l11 l15 x19 x20)) + (l.getD x10 dWr).at_) ((l.getD x10 dWr).data)).2)) rfl rfl (fun _ hw => run_ex rfl rfl rfl) (⟨hm113.at 2 rfl, ((hm113.see 1 rfl))⟩) ?_
    simp only [nz]
    refine one_ready 19 (by kernel_rfl) ?_
    have ho119 := (rd_one ((hm113.see 9 rfl).1))
    have ho120 := (rd_one ((hm113.see 9 rfl).2))
    refine opd rfl rfl (m_store 8 25 _ _ 0 (.agg #[v105, v106, J (((rput_m (Dk.mk l11 l15 x19 x20) ((rlog_m (Dk.mk l11 l15 x19 x20)) + (l.getD x10 dWr).at_) ((l.getD x10 dWr).data)).1).fuse), .bool (((rput_m (Dk.mk l11 l15 x19 x20) ((rlog_m (Dk.mk l11 l15 x19 x20)) + (l.getD x10 dWr).at_) ((l.getD x10 dWr).data)).1).down)]) (old := #[.slice none 0 0, .slice none 0 0, J 0, .bool false]) (new := #[v105, v106, J (((rput_m (Dk.mk l11 l15 x19 x20) ((rlog_m (Dk.mk l11 l15 x19 x20)) + (l.getD x10 dWr).at_) ((l.getD x10 dWr).data)).1).fuse), .bool (((rput_m (Dk.mk l11 l15 x19 x20) ((rlog_m (Dk.mk l11 l15 x19 x20)) + (l.getD x10 dWr).at_) ((l.getD x10 dWr).data)).1).down)]) hm113 rfl rfl rfl rfl rfl (by exact sz_25) (show 0 + 4 ≤ 4 from by decide) a4 rfl (fun w117 hm118 => ?_))
    refine ⟨⟨hm118.at 2 rfl, ((hm118.see 1 rfl))⟩, ?_⟩
    refine one_ready 20 (by kernel_rfl) ?_
    refine opd rfl rfl (w_value 10 (J ((rput_m (Dk.mk l11 l15 x19 x20) ((rlog_m (Dk.mk l11 l15 x19 x20)) + (l.getD x10 dWr).at_) ((l.getD x10 dWr).data)).2)) rfl (run_as rfl rfl) ⟨⟨hm118.at 2 rfl, ((hm118.see 1 rfl))⟩, ?_⟩)
    simp only [nz]
    refine wpAnyH_done (by kernel_rfl) ?_ _
    exact ⟨rfl, v105, v106, F108, g102, rfl, (Mm.reorder hm118 [0, 1, 2, 3, 4, 5, 6, 7, 9, 8] (by decide) rfl)⟩
   refine opd rfl rfl (m_alloc (c := #[.slice none 0 0, .slice none 0 0, J 0, .bool false]) (T := 25) hm74 9 rfl (by unfold execOp; go_simp; try rfl) (fun g123 w121 hm122 => ?_))
   refine ⟨⟨hm122.at 2 rfl, ((hm122.see 1 rfl))⟩, ?_⟩
   simp only [nz]
   refine one_ready 2 (by kernel_rfl) ?_
   refine opd rfl rfl (m_call hm122 21 (J ((rlog_m (Dk.mk l11 l15 x19 x20)))) rfl (run_rlog rfl rfl) (rlog_any (Dk.mk l11 l15 x19 x20) v12 v16 _ ⟨(hm122.see 4 rfl), (hm122.see 5 rfl)⟩ (by simp; omega) (by simp; omega)) (fun w124 hm125 => ?_))
   have hf126 : (rlog_m (Dk.mk l11 l15 x19 x20)) = (((l11.length / 4 : Nat)) : Int) := rlog_len (Dk.mk l11 l15 x19 x20)
   refine ⟨⟨hm125.at 2 rfl, ((hm125.see 1 rfl))⟩, ?_⟩
   simp only [nz]
   refine tn 8 27 (J (((rlog_m (Dk.mk l11 l15 x19 x20)) + (l.getD x10 dWr).at_))) rfl rfl (fun _ hw => z_add (rlog_m (Dk.mk l11 l15 x19 x20)) ((l.getD x10 dWr).at_) _ (by have hz := ats_of (l := l) (by assumption) x10 (by omega); rw [IntKind.wrap_i64]; omega) rfl rfl rfl) (⟨hm125.at 2 rfl, ((hm125.see 1 rfl))⟩) ?_
   simp only [nz]
   refine one_ready 14 (by kernel_rfl) ?_
   refine opd rfl rfl (m_callx hm125 33 rfl (run_rput rfl rfl rfl rfl) (rput_any (Dk.mk l11 l15 x19 x20) ((rlog_m (Dk.mk l11 l15 x19 x20)) + (l.getD x10 dWr).at_) ((l.getD x10 dWr).data) v12 v16 (seeS _) _ ((hm125.from 4 rfl).and (hm125.from 5 rfl)) (by simp; omega) (by simp; omega) (by simp; omega)) (fun vv133 w127 hR134 hb135 hm128 => ?_))
   obtain ⟨v129, v130, rfl, hg136⟩ := hR134
   obtain ⟨F132, hm137⟩ : ∃ F132, Mm none S w w127 [.see (DkR d dv0 dv1) Fd, .see (Rs eWr 2 l lv0) Fl, .blk g4 #[v12, v16, J (x19), .bool (x20)] 25, .blk g7 #[v22, v26, J (x29 : Int), .bool (x30)] 25, .see (Rs eS 1 l11 v12) F13, .see (Rs eWr 2 l15 v16) F17, .see (Rs eS 1 l21 v22) F23, .see (Rs eWr 2 l25 v26) F27, .blk g123 #[.slice none 0 0, .slice none 0 0, J 0, .bool false] 25, .see (DkR ((rput_m (Dk.mk l11 l15 x19 x20) ((rlog_m (Dk.mk l11 l15 x19 x20)) + (l.getD x10 dWr).at_) ((l.getD x10 dWr).data)).1) v129 v130) F132] := Mm.tookS hm125 hb135 hg136
   clear hm128 hg136 hb135
   have hf138 : (rput_m (Dk.mk l11 l15 x19 x20) ((rlog_m (Dk.mk l11 l15 x19 x20)) + (l.getD x10 dWr).at_) ((l.getD x10 dWr).data)).1.safe.length = l11.length := (rput_near (Dk.mk l11 l15 x19 x20) ((rlog_m (Dk.mk l11 l15 x19 x20)) + (l.getD x10 dWr).at_) ((l.getD x10 dWr).data)).1
   have hf139 : (rput_m (Dk.mk l11 l15 x19 x20) ((rlog_m (Dk.mk l11 l15 x19 x20)) + (l.getD x10 dWr).at_) ((l.getD x10 dWr).data)).1.loose.length ≤ l15.length + 1 := (rput_near (Dk.mk l11 l15 x19 x20) ((rlog_m (Dk.mk l11 l15 x19 x20)) + (l.getD x10 dWr).at_) ((l.getD x10 dWr).data)).2.1
   have hf140 : (rput_m (Dk.mk l11 l15 x19 x20) ((rlog_m (Dk.mk l11 l15 x19 x20)) + (l.getD x10 dWr).at_) ((l.getD x10 dWr).data)).1.fuse ≤ 9223372036854775807 := (rput_near (Dk.mk l11 l15 x19 x20) ((rlog_m (Dk.mk l11 l15 x19 x20)) + (l.getD x10 dWr).at_) ((l.getD x10 dWr).data)).2.2 (show x19 ≤ 9223372036854775807 from (by omega))
   refine ⟨⟨hm137.at 2 rfl, ((hm137.see 1 rfl))⟩, ?_⟩
   simp only [nz]
   refine tn 15 18 (.tuple #[.agg #[v129, v130, J (((rput_m (Dk.mk l11 l15 x19 x20) ((rlog_m (Dk.mk l11 l15 x19 x20)) + (l.getD x10 dWr).at_) ((l.getD x10 dWr).data)).1).fuse), .bool (((rput_m (Dk.mk l11 l15 x19 x20) ((rlog_m (Dk.mk l11 l15 x19 x20)) + (l.getD x10 dWr).at_) ((l.getD x10 dWr).data)).1).down)], J ((rput_m (Dk.mk l11 l15 x19 x20) ((rlog_m (Dk.mk l11 l15 x19 x20)) + (l.getD x10 dWr).at_) ((l.getD x10 dWr).data)).2)]) rfl rfl (fun _ hw => run_mv rfl rfl) (⟨hm137.at 2 rfl, ((hm137.see 1 rfl))⟩) ?_
   simp only [nz]
   refine tn 16 34 (.agg #[v129, v130, J (((rput_m (Dk.mk l11 l15 x19 x20) ((rlog_m (Dk.mk l11 l15 x19 x20)) + (l.getD x10 dWr).at_) ((l.getD x10 dWr).data)).1).fuse), .bool (((rput_m (Dk.mk l11 l15 x19 x20) ((rlog_m (Dk.mk l11 l15 x19 x20)) + (l.getD x10 dWr).at_) ((l.getD x10 dWr).data)).1).down)]) rfl rfl (fun _ hw => run_ex rfl rfl rfl) (⟨hm137.at 2 rfl, ((hm137.see 1 rfl))⟩) ?_
   simp only [nz]
   refine tn 17 35 (J ((rput_m (Dk.mk l11 l15 x19 x20) ((rlog_m (Dk.mk l11 l15 x19 x20)) + (l.getD x10 dWr).at_) ((l.getD x10 dWr).data)).2)) rfl rfl (fun _ hw => run_ex rfl rfl rfl) (⟨hm137.at 2 rfl, ((hm137.see 1 rfl))⟩) ?_
   simp only [nz]
   refine one_ready 19 (by kernel_rfl) ?_
   have ho143 := (rd_one ((hm137.see 9 rfl).1))
   have ho144 := (rd_one ((hm137.see 9 rfl).2))
   refine opd rfl rfl (m_store 8 25 _ _ 0 (.agg #[v129, v130, J (((rput_m (Dk.mk l11 l15 x19 x20) ((rlog_m (Dk.mk l11 l15 x19 x20)) + (l.getD x10 dWr).at_) ((l.getD x10 dWr).data)).1).fuse), .bool (((rput_m (Dk.mk l11 l15 x19 x20) ((rlog_m (Dk.mk l11 l15 x19 x20)) + (l.getD x10 dWr).at_) ((l.getD x10 dWr).data)).1).down)]) (old := #[.slice none 0 0, .slice none 0 0, J 0, .bool false]) (new := #[v129, v130, J (((rput_m (Dk.mk l11 l15 x19 x20) ((rlog_m (Dk.mk l11 l15 x19 x20)) + (l.getD x10 dWr).at_) ((l.getD x10 dWr).data)).1).fuse), .bool (((rput_m (Dk.mk l11 l15 x19 x20) ((rlog_m (Dk.mk l11 l15 x19 x20)) + (l.getD x10 dWr).at_) ((l.getD x10 dWr).data)).1).down)]) hm137 rfl rfl rfl rfl rfl (by exact sz_25) (show 0 + 4 ≤ 4 from by decide) a4 rfl (fun w141 hm142 => ?_))
   refine ⟨⟨hm142.at 2 rfl, ((hm142.see 1 rfl))⟩, ?_⟩
   refine one_ready 20 (by kernel_rfl) ?_
   refine opd rfl rfl (w_value 10 (J ((rput_m (Dk.mk l11 l15 x19 x20) ((rlog_m (Dk.mk l11 l15 x19 x20)) + (l.getD x10 dWr).at_) ((l.getD x10 dWr).data)).2)) rfl (run_as rfl rfl) ⟨⟨hm142.at 2 rfl, ((hm142.see 1 rfl))⟩, ?_⟩)
   simp only [nz]
   refine wpAnyH_done (by kernel_rfl) ?_ _
   exact ⟨rfl, v129, v130, F132, g123, rfl, (Mm.reorder hm142 [0, 1, 2, 3, 4, 5, 6, 7, 9, 8] (by decide) rfl)⟩
  clear hm65
  rintro _ _ w145 ⟨rfl, v81, v82, F84, g95, rfl, hm146⟩
  have hf147 : (rlog_m (Dk.mk l11 l15 x19 x20)) = (((l11.length / 4 : Nat)) : Int) := rlog_len (Dk.mk l11 l15 x19 x20)
  have hf148 : (rput_m (Dk.mk l11 l15 x19 x20) ((rlog_m (Dk.mk l11 l15 x19 x20)) + (l.getD x10 dWr).at_) ((l.getD x10 dWr).data)).1.safe.length = l11.length := (rput_near (Dk.mk l11 l15 x19 x20) ((rlog_m (Dk.mk l11 l15 x19 x20)) + (l.getD x10 dWr).at_) ((l.getD x10 dWr).data)).1
  have hf149 : (rput_m (Dk.mk l11 l15 x19 x20) ((rlog_m (Dk.mk l11 l15 x19 x20)) + (l.getD x10 dWr).at_) ((l.getD x10 dWr).data)).1.loose.length ≤ l15.length + 1 := (rput_near (Dk.mk l11 l15 x19 x20) ((rlog_m (Dk.mk l11 l15 x19 x20)) + (l.getD x10 dWr).at_) ((l.getD x10 dWr).data)).2.1
  have hf150 : (rput_m (Dk.mk l11 l15 x19 x20) ((rlog_m (Dk.mk l11 l15 x19 x20)) + (l.getD x10 dWr).at_) ((l.getD x10 dWr).data)).1.fuse ≤ 9223372036854775807 := (rput_near (Dk.mk l11 l15 x19 x20) ((rlog_m (Dk.mk l11 l15 x19 x20)) + (l.getD x10 dWr).at_) ((l.getD x10 dWr).data)).2.2 (show x19 ≤ 9223372036854775807 from (by omega))
  refine tj (hK73 _ _ (wk (fun K151 hK151 => (wk (fun K152 hK152 => (wq ?_))))))
  refine lm 36 (J ((rput_m (Dk.mk l11 l15 x19 x20) ((rlog_m (Dk.mk l11 l15 x19 x20)) + (l.getD x10 dWr).at_) ((l.getD x10 dWr).data)).2)) ?_
  refine lw 37 (.bool (decide (¬ (rput_m (Dk.mk l11 l15 x19 x20) ((rlog_m (Dk.mk l11 l15 x19 x20)) + (l.getD x10 dWr).at_) ((l.getD x10 dWr).data)).2 = 0))) (z_neq ((rput_m (Dk.mk l11 l15 x19 x20) ((rlog_m (Dk.mk l11 l15 x19 x20)) + (l.getD x10 dWr).at_) ((l.getD x10 dWr).data)).2) 0 rfl rfl rfl) ?_
  simp only [nz]
  refine wn (tj (hK152 _ _ ?_))
  refine cond_d (¬ (rput_m (Dk.mk l11 l15 x19 x20) ((rlog_m (Dk.mk l11 l15 x19 x20)) + (l.getD x10 dWr).at_) ((l.getD x10 dWr).data)).2 = 0) rfl (fun hc153 => ?_) (fun hc153 => ?_)
  ·refine wk (fun K154 hK154 => (wq ?_))
   refine lw 38 (.agg #[v81, v82, J (((rput_m (Dk.mk l11 l15 x19 x20) ((rlog_m (Dk.mk l11 l15 x19 x20)) + (l.getD x10 dWr).at_) ((l.getD x10 dWr).data)).1).fuse), .bool (((rput_m (Dk.mk l11 l15 x19 x20) ((rlog_m (Dk.mk l11 l15 x19 x20)) + (l.getD x10 dWr).at_) ((l.getD x10 dWr).data)).1).down)]) (r_whole (hm146.at 9 rfl) Tryd.underlying25 rfl (by exact sz_25) rfl rfl) ?_
   refine lm 39 (J ((rput_m (Dk.mk l11 l15 x19 x20) ((rlog_m (Dk.mk l11 l15 x19 x20)) + (l.getD x10 dWr).at_) ((l.getD x10 dWr).data)).2)) ?_
   simp only [nz]
   have ho157 := (rd_one ((hm146.see 8 rfl).1))
   have ho158 := (rd_one ((hm146.see 8 rfl).2))
   refine lst rfl (m_store 3 25 _ _ 0 (.agg #[v81, v82, J (((rput_m (Dk.mk l11 l15 x19 x20) ((rlog_m (Dk.mk l11 l15 x19 x20)) + (l.getD x10 dWr).at_) ((l.getD x10 dWr).data)).1).fuse), .bool (((rput_m (Dk.mk l11 l15 x19 x20) ((rlog_m (Dk.mk l11 l15 x19 x20)) + (l.getD x10 dWr).at_) ((l.getD x10 dWr).data)).1).down)]) (old := #[v22, v26, J (x29 : Int), .bool (x30)]) (new := #[v81, v82, J (((rput_m (Dk.mk l11 l15 x19 x20) ((rlog_m (Dk.mk l11 l15 x19 x20)) + (l.getD x10 dWr).at_) ((l.getD x10 dWr).data)).1).fuse), .bool (((rput_m (Dk.mk l11 l15 x19 x20) ((rlog_m (Dk.mk l11 l15 x19 x20)) + (l.getD x10 dWr).at_) ((l.getD x10 dWr).data)).1).down)]) hm146 rfl rfl rfl rfl rfl (by exact sz_25) (show 0 + 4 ≤ 4 from by decide) a4 rfl (fun w155 hm156 => ?_))
   refine la 7 (J ((rput_m (Dk.mk l11 l15 x19 x20) ((rlog_m (Dk.mk l11 l15 x19 x20)) + (l.getD x10 dWr).at_) ((l.getD x10 dWr).data)).2)) ?_
   simp only [nz]
   refine wn (tj (hK154 _ _ (wp_ret (then_r (blk_r (then_r (then_r (blk_r (then_r (then_r ?_))))))))))
   have he159 : place_m_l0 d epoch l ((l.length - 0) + 1) (0, d.safe, d.loose, d.fuse, d.down, ([] : List (List UInt8)), ([] : List Wr), 0, false) = .inr (((rput_m (Dk.mk l11 l15 x19 x20) ((rlog_m (Dk.mk l11 l15 x19 x20)) + (l.getD x10 dWr).at_) ((l.getD x10 dWr).data)).1), (rput_m (Dk.mk l11 l15 x19 x20) ((rlog_m (Dk.mk l11 l15 x19 x20)) + (l.getD x10 dWr).at_) ((l.getD x10 dWr).data)).2) := (hi45.trans (show place_m_b0 d epoch l (place_m_l0 d epoch l k44) x10 l11 l15 x19 x20 l21 l25 x29 x30 = .inr (((rput_m (Dk.mk l11 l15 x19 x20) ((rlog_m (Dk.mk l11 l15 x19 x20)) + (l.getD x10 dWr).at_) ((l.getD x10 dWr).data)).1), (rput_m (Dk.mk l11 l15 x19 x20) ((rlog_m (Dk.mk l11 l15 x19 x20)) + (l.getD x10 dWr).at_) ((l.getD x10 dWr).data)).2) from by unfold place_m_b0; rw [if_pos hc71, if_pos hc153] <;> rfl))
   have he160 : place_m d epoch l = (((rput_m (Dk.mk l11 l15 x19 x20) ((rlog_m (Dk.mk l11 l15 x19 x20)) + (l.getD x10 dWr).at_) ((l.getD x10 dWr).data)).1), (rput_m (Dk.mk l11 l15 x19 x20) ((rlog_m (Dk.mk l11 l15 x19 x20)) + (l.getD x10 dWr).at_) ((l.getD x10 dWr).data)).2) := by unfold place_m; rw [he159] <;> rfl
   exact ⟨rfl, .tuple #[.agg #[v81, v82, J (((rput_m (Dk.mk l11 l15 x19 x20) ((rlog_m (Dk.mk l11 l15 x19 x20)) + (l.getD x10 dWr).at_) ((l.getD x10 dWr).data)).1).fuse), .bool (((rput_m (Dk.mk l11 l15 x19 x20) ((rlog_m (Dk.mk l11 l15 x19 x20)) + (l.getD x10 dWr).at_) ((l.getD x10 dWr).data)).1).down)], J ((rput_m (Dk.mk l11 l15 x19 x20) ((rlog_m (Dk.mk l11 l15 x19 x20)) + (l.getD x10 dWr).at_) ((l.getD x10 dWr).data)).2)], Mem.res_ct rfl rfl (hm156.at 3 rfl) Tryd.underlying25 rfl (by exact sz_25) rfl, ⟨⟨_, rfl, v81, v82, (by rw [he160]), by rw [he160]; exact hm156.give (hm156.from 8 rfl)⟩, hm156.below⟩⟩
  refine wp_skip (tj (hK151 _ _ (wq ?_)))
  refine lw 40 (.agg #[v81, v82, J (((rput_m (Dk.mk l11 l15 x19 x20) ((rlog_m (Dk.mk l11 l15 x19 x20)) + (l.getD x10 dWr).at_) ((l.getD x10 dWr).data)).1).fuse), .bool (((rput_m (Dk.mk l11 l15 x19 x20) ((rlog_m (Dk.mk l11 l15 x19 x20)) + (l.getD x10 dWr).at_) ((l.getD x10 dWr).data)).1).down)]) (r_whole (hm146.at 9 rfl) Tryd.underlying25 rfl (by exact sz_25) rfl rfl) ?_
  simp only [nz]
  have ho163 := (rd_one ((hm146.see 8 rfl).1))
  have ho164 := (rd_one ((hm146.see 8 rfl).2))
  refine lst rfl (m_store 2 25 _ _ 0 (.agg #[v81, v82, J (((rput_m (Dk.mk l11 l15 x19 x20) ((rlog_m (Dk.mk l11 l15 x19 x20)) + (l.getD x10 dWr).at_) ((l.getD x10 dWr).data)).1).fuse), .bool (((rput_m (Dk.mk l11 l15 x19 x20) ((rlog_m (Dk.mk l11 l15 x19 x20)) + (l.getD x10 dWr).at_) ((l.getD x10 dWr).data)).1).down)]) (old := #[v12, v16, J (x19), .bool (x20)]) (new := #[v81, v82, J (((rput_m (Dk.mk l11 l15 x19 x20) ((rlog_m (Dk.mk l11 l15 x19 x20)) + (l.getD x10 dWr).at_) ((l.getD x10 dWr).data)).1).fuse), .bool (((rput_m (Dk.mk l11 l15 x19 x20) ((rlog_m (Dk.mk l11 l15 x19 x20)) + (l.getD x10 dWr).at_) ((l.getD x10 dWr).data)).1).down)]) hm146 rfl rfl rfl rfl rfl (by exact sz_25) (show 0 + 4 ≤ 4 from by decide) a4 rfl (fun w161 hm162 => ?_))
  refine wn (blk_n (tj (hK72 _ _ (wq ?_))))
  refine lm 16 (J (x10 : Int)) ?_
  refine lw 17 (J (((x10 + 1) : Nat) : Int)) (r_add x10 1 (show (x10 + 1) < 9223372036854775808 from by omega) rfl rfl rfl) ?_
  refine la 8 (J (((x10 + 1) : Nat) : Int)) ?_
  simp only [nz]
  refine wn ?_
  obtain ⟨F165, hm166⟩ : ∃ F165, Mm none S w w161 [.see (DkR d dv0 dv1) Fd, .see (Rs eWr 2 l lv0) Fl, .blk g4 #[v81, v82, J (((rput_m (Dk.mk l11 l15 x19 x20) ((rlog_m (Dk.mk l11 l15 x19 x20)) + (l.getD x10 dWr).at_) ((l.getD x10 dWr).data)).1).fuse), .bool (((rput_m (Dk.mk l11 l15 x19 x20) ((rlog_m (Dk.mk l11 l15 x19 x20)) + (l.getD x10 dWr).at_) ((l.getD x10 dWr).data)).1).down)] 25, .blk g7 #[v22, v26, J (x29 : Int), .bool (x30)] 25, .see (Rs eS 1 l11 v12) F13, .see (Rs eWr 2 l15 v16) F17, .see (Rs eS 1 l21 v22) F23, .see (Rs eWr 2 l25 v26) F27, .see (DkR ((rput_m (Dk.mk l11 l15 x19 x20) ((rlog_m (Dk.mk l11 l15 x19 x20)) + (l.getD x10 dWr).at_) ((l.getD x10 dWr).data)).1) v81 v82) F84, .blk g95 #[v81, v82, J (((rput_m (Dk.mk l11 l15 x19 x20) ((rlog_m (Dk.mk l11 l15 x19 x20)) + (l.getD x10 dWr).at_) ((l.getD x10 dWr).data)).1).fuse), .bool (((rput_m (Dk.mk l11 l15 x19 x20) ((rlog_m (Dk.mk l11 l15 x19 x20)) + (l.getD x10 dWr).at_) ((l.getD x10 dWr).data)).1).down)] 25, .see (Rs eS 1 (((rput_m (Dk.mk l11 l15 x19 x20) ((rlog_m (Dk.mk l11 l15 x19 x20)) + (l.getD x10 dWr).at_) ((l.getD x10 dWr).data)).1).safe) v81) F165] := hm162.derive ((hm162.from 8 rfl).mono (fun _ h => h.1))
  obtain ⟨F168, hm169⟩ : ∃ F168, Mm none S w w161 [.see (DkR d dv0 dv1) Fd, .see (Rs eWr 2 l lv0) Fl, .blk g4 #[v81, v82, J (((rput_m (Dk.mk l11 l15 x19 x20) ((rlog_m (Dk.mk l11 l15 x19 x20)) + (l.getD x10 dWr).at_) ((l.getD x10 dWr).data)).1).fuse), .bool (((rput_m (Dk.mk l11 l15 x19 x20) ((rlog_m (Dk.mk l11 l15 x19 x20)) + (l.getD x10 dWr).at_) ((l.getD x10 dWr).data)).1).down)] 25, .blk g7 #[v22, v26, J (x29 : Int), .bool (x30)] 25, .see (Rs eS 1 l11 v12) F13, .see (Rs eWr 2 l15 v16) F17, .see (Rs eS 1 l21 v22) F23, .see (Rs eWr 2 l25 v26) F27, .see (DkR ((rput_m (Dk.mk l11 l15 x19 x20) ((rlog_m (Dk.mk l11 l15 x19 x20)) + (l.getD x10 dWr).at_) ((l.getD x10 dWr).data)).1) v81 v82) F84, .blk g95 #[v81, v82, J (((rput_m (Dk.mk l11 l15 x19 x20) ((rlog_m (Dk.mk l11 l15 x19 x20)) + (l.getD x10 dWr).at_) ((l.getD x10 dWr).data)).1).fuse), .bool (((rput_m (Dk.mk l11 l15 x19 x20) ((rlog_m (Dk.mk l11 l15 x19 x20)) + (l.getD x10 dWr).at_) ((l.getD x10 dWr).data)).1).down)] 25, .see (Rs eS 1 (((rput_m (Dk.mk l11 l15 x19 x20) ((rlog_m (Dk.mk l11 l15 x19 x20)) + (l.getD x10 dWr).at_) ((l.getD x10 dWr).data)).1).safe) v81) F165, .see (Rs eWr 2 (((rput_m (Dk.mk l11 l15 x19 x20) ((rlog_m (Dk.mk l11 l15 x19 x20)) + (l.getD x10 dWr).at_) ((l.getD x10 dWr).data)).1).loose) v82) F168] := hm166.derive ((hm166.from 8 rfl).mono (fun _ h => h.2))
  obtain ⟨F171, hm172⟩ := hm169.derive (hm169.from 6 rfl)
  obtain ⟨F174, hm175⟩ := hm172.derive (hm172.from 7 rfl)
  refine tj (hR66 _ _ _ ⟨k44, (x10 + 1), (((rput_m (Dk.mk l11 l15 x19 x20) ((rlog_m (Dk.mk l11 l15 x19 x20)) + (l.getD x10 dWr).at_) ((l.getD x10 dWr).data)).1).safe), (((rput_m (Dk.mk l11 l15 x19 x20) ((rlog_m (Dk.mk l11 l15 x19 x20)) + (l.getD x10 dWr).at_) ((l.getD x10 dWr).data)).1).loose), ((rput_m (Dk.mk l11 l15 x19 x20) ((rlog_m (Dk.mk l11 l15 x19 x20)) + (l.getD x10 dWr).at_) ((l.getD x10 dWr).data)).1).fuse, (((rput_m (Dk.mk l11 l15 x19 x20) ((rlog_m (Dk.mk l11 l15 x19 x20)) + (l.getD x10 dWr).at_) ((l.getD x10 dWr).data)).1).down), l21, l25, x29, x30, v81, F165, v82, F168, v22, F171, v26, F174, (fun qq => bif Nat.blt qq 24 then List.getD [u0 0, Pp g95 0, J ((rput_m (Dk.mk l11 l15 x19 x20) ((rlog_m (Dk.mk l11 l15 x19 x20)) + (l.getD x10 dWr).at_) ((l.getD x10 dWr).data)).2), J (x10 : Int), lv0, J (l.length : Int), .bool (decide (x10 < l.length)), J (x10 : Int), J (((x10 + 1) : Nat) : Int), .tuple #[.agg #[v81, v82, J (((rput_m (Dk.mk l11 l15 x19 x20) ((rlog_m (Dk.mk l11 l15 x19 x20)) + (l.getD x10 dWr).at_) ((l.getD x10 dWr).data)).1).fuse), .bool (((rput_m (Dk.mk l11 l15 x19 x20) ((rlog_m (Dk.mk l11 l15 x19 x20)) + (l.getD x10 dWr).at_) ((l.getD x10 dWr).data)).1).down)], J ((rput_m (Dk.mk l11 l15 x19 x20) ((rlog_m (Dk.mk l11 l15 x19 x20)) + (l.getD x10 dWr).at_) ((l.getD x10 dWr).data)).2)], .agg #[v12, v16, J (x19), .bool (x20)], .agg #[v12, v16, J (x19), .bool (x20)], J ((rlog_m (Dk.mk l11 l15 x19 x20))), lv0, J (x10 : Int), .pointer (some ⟨(bk lv0), (po lv0 + x10 * 2), none⟩), .pointer (some ⟨(bk lv0), ((po lv0 + x10 * 2) + 0), none⟩), J ((l.getD x10 dWr).at_), J (((rlog_m (Dk.mk l11 l15 x19 x20)) + (l.getD x10 dWr).at_)), lv0, J (x10 : Int), .pointer (some ⟨(bk lv0), (po lv0 + x10 * 2), none⟩), .pointer (some ⟨(bk lv0), ((po lv0 + x10 * 2) + 1), none⟩), .string (tx ((l.getD x10 dWr).data))] qq undef else List.getD [.tuple #[.agg #[v81, v82, J (((rput_m (Dk.mk l11 l15 x19 x20) ((rlog_m (Dk.mk l11 l15 x19 x20)) + (l.getD x10 dWr).at_) ((l.getD x10 dWr).data)).1).fuse), .bool (((rput_m (Dk.mk l11 l15 x19 x20) ((rlog_m (Dk.mk l11 l15 x19 x20)) + (l.getD x10 dWr).at_) ((l.getD x10 dWr).data)).1).down)], J ((rput_m (Dk.mk l11 l15 x19 x20) ((rlog_m (Dk.mk l11 l15 x19 x20)) + (l.getD x10 dWr).at_) ((l.getD x10 dWr).data)).2)], .agg #[v81, v82, J (((rput_m (Dk.mk l11 l15 x19 x20) ((rlog_m (Dk.mk l11 l15 x19 x20)) + (l.getD x10 dWr).at_) ((l.getD x10 dWr).data)).1).fuse), .bool (((rput_m (Dk.mk l11 l15 x19 x20) ((rlog_m (Dk.mk l11 l15 x19 x20)) + (l.getD x10 dWr).at_) ((l.getD x10 dWr).data)).1).down)], J ((rput_m (Dk.mk l11 l15 x19 x20) ((rlog_m (Dk.mk l11 l15 x19 x20)) + (l.getD x10 dWr).at_) ((l.getD x10 dWr).data)).2), J ((rput_m (Dk.mk l11 l15 x19 x20) ((rlog_m (Dk.mk l11 l15 x19 x20)) + (l.getD x10 dWr).at_) ((l.getD x10 dWr).data)).2), .bool (decide (¬ (rput_m (Dk.mk l11 l15 x19 x20) ((rlog_m (Dk.mk l11 l15 x19 x20)) + (l.getD x10 dWr).at_) ((l.getD x10 dWr).data)).2 = 0)), u0 29, u0 30, .agg #[v81, v82, J (((rput_m (Dk.mk l11 l15 x19 x20) ((rlog_m (Dk.mk l11 l15 x19 x20)) + (l.getD x10 dWr).at_) ((l.getD x10 dWr).data)).1).fuse), .bool (((rput_m (Dk.mk l11 l15 x19 x20) ((rlog_m (Dk.mk l11 l15 x19 x20)) + (l.getD x10 dWr).at_) ((l.getD x10 dWr).data)).1).down)]] (qq - 24) undef), rfl, (by omega), (hi45.trans (show place_m_b0 d epoch l (place_m_l0 d epoch l k44) x10 l11 l15 x19 x20 l21 l25 x29 x30 = place_m_l0 d epoch l k44 ((x10 + 1), (((rput_m (Dk.mk l11 l15 x19 x20) ((rlog_m (Dk.mk l11 l15 x19 x20)) + (l.getD x10 dWr).at_) ((l.getD x10 dWr).data)).1).safe), (((rput_m (Dk.mk l11 l15 x19 x20) ((rlog_m (Dk.mk l11 l15 x19 x20)) + (l.getD x10 dWr).at_) ((l.getD x10 dWr).data)).1).loose), ((rput_m (Dk.mk l11 l15 x19 x20) ((rlog_m (Dk.mk l11 l15 x19 x20)) + (l.getD x10 dWr).at_) ((l.getD x10 dWr).data)).1).fuse, (((rput_m (Dk.mk l11 l15 x19 x20) ((rlog_m (Dk.mk l11 l15 x19 x20)) + (l.getD x10 dWr).at_) ((l.getD x10 dWr).data)).1).down), l21, l25, x29, x30) from by unfold place_m_b0; rw [if_pos hc71, if_neg hc153] <;> rfl)), (by omega), rfl, (Mm.reorder hm175 [0, 1, 2, 3, 10, 11, 12, 13] (by decide) rfl)⟩ ?_)
  omega
 rintro _ w189 ⟨y46, y47, y50, y53, y54, y55, y58, y61, y62, v48, F49, v51, F52, v56, F57, v59, F60, yu0, hx63, hbr, rfl, hm190⟩
 have hq191 : place_m d epoch l = place_m_k0 d epoch l y46 y47 y50 y53 y54 y55 y58 y61 y62 := (show place_m d epoch l = place_m_k0 d epoch l y46 y47 y50 y53 y54 y55 y58 y61 y62 from by unfold place_m; rw [hx63] <;> rfl)
 refine tj (hK8 _ _ (wk (fun K192 hK192 => (wq ?_))))
 refine lw 42 (.agg #[v48, v51, J (y53), .bool (y54)]) (r_whole (hm190.at 2 rfl) Tryd.underlying25 rfl (by exact sz_25) rfl rfl) ?_
 simp only [nz]
 refine lst rfl (m_callx hm190 43 rfl (run_rflush rfl rfl) (rflush_any (Dk.mk y47 y50 y53 y54) v48 v51 (seeS _) _ ((hm190.from 4 rfl).and (hm190.from 5 rfl)) (by simp; omega) (by simp; omega) (by simp; omega)) (fun vv199 w193 hR200 hb201 hm194 => ?_))
 obtain ⟨v195, v196, rfl, hg202⟩ := hR200
 obtain ⟨F198, hm203⟩ : ∃ F198, Mm none S w w193 [.see (DkR d dv0 dv1) Fd, .see (Rs eWr 2 l lv0) Fl, .blk g4 #[v48, v51, J (y53), .bool (y54)] 25, .blk g7 #[v56, v59, J (y61 : Int), .bool (y62)] 25, .see (Rs eS 1 y47 v48) F49, .see (Rs eWr 2 y50 v51) F52, .see (Rs eS 1 y55 v56) F57, .see (Rs eWr 2 y58 v59) F60, .see (DkR ((rflush_m (Dk.mk y47 y50 y53 y54)).1) v195 v196) F198] := Mm.tookS hm190 hb201 hg202
 clear hm194 hg202 hb201
 have hf204 : (rflush_m (Dk.mk y47 y50 y53 y54)).1.safe.length = y47.length := (rflush_near (Dk.mk y47 y50 y53 y54)).1
 have hf205 : (rflush_m (Dk.mk y47 y50 y53 y54)).1.loose.length ≤ y50.length + 0 := (rflush_near (Dk.mk y47 y50 y53 y54)).2.1
 have hf206 : (rflush_m (Dk.mk y47 y50 y53 y54)).1.fuse ≤ 9223372036854775807 := (rflush_near (Dk.mk y47 y50 y53 y54)).2.2 (show y53 ≤ 9223372036854775807 from (by omega))
 simp only [nz]
 refine lm 41 (.tuple #[.agg #[v195, v196, J (((rflush_m (Dk.mk y47 y50 y53 y54)).1).fuse), .bool (((rflush_m (Dk.mk y47 y50 y53 y54)).1).down)], J ((rflush_m (Dk.mk y47 y50 y53 y54)).2)]) ?_
 refine lw 44 (.agg #[v195, v196, J (((rflush_m (Dk.mk y47 y50 y53 y54)).1).fuse), .bool (((rflush_m (Dk.mk y47 y50 y53 y54)).1).down)]) (run_ex rfl rfl rfl) ?_
 refine lw 45 (J ((rflush_m (Dk.mk y47 y50 y53 y54)).2)) (run_ex rfl rfl rfl) ?_
 simp only [nz]
 have ho209 := (rd_one ((hm203.see 8 rfl).1))
 have ho210 := (rd_one ((hm203.see 8 rfl).2))
 refine lst rfl (m_store 2 25 _ _ 0 (.agg #[v195, v196, J (((rflush_m (Dk.mk y47 y50 y53 y54)).1).fuse), .bool (((rflush_m (Dk.mk y47 y50 y53 y54)).1).down)]) (old := #[v48, v51, J (y53), .bool (y54)]) (new := #[v195, v196, J (((rflush_m (Dk.mk y47 y50 y53 y54)).1).fuse), .bool (((rflush_m (Dk.mk y47 y50 y53 y54)).1).down)]) hm203 rfl rfl rfl rfl rfl (by exact sz_25) (show 0 + 4 ≤ 4 from by decide) a4 rfl (fun w207 hm208 => ?_))
 refine la 11 (J ((rflush_m (Dk.mk y47 y50 y53 y54)).2)) ?_
 simp only [nz]
 refine wn (tj (hK192 _ _ (wk (fun K211 hK211 => (wk (fun K212 hK212 => (wq ?_)))))))
 refine lm 46 (J ((rflush_m (Dk.mk y47 y50 y53 y54)).2)) ?_
 refine lw 47 (.bool (decide (¬ (rflush_m (Dk.mk y47 y50 y53 y54)).2 = 0))) (z_neq ((rflush_m (Dk.mk y47 y50 y53 y54)).2) 0 rfl rfl rfl) ?_
 simp only [nz]
 refine wn (tj (hK212 _ _ ?_))
 refine cond_d (¬ (rflush_m (Dk.mk y47 y50 y53 y54)).2 = 0) rfl (fun hc213 => ?_) (fun hc213 => ?_)
 ·refine wk (fun K214 hK214 => (wq ?_))
  refine lw 48 (.agg #[v195, v196, J (((rflush_m (Dk.mk y47 y50 y53 y54)).1).fuse), .bool (((rflush_m (Dk.mk y47 y50 y53 y54)).1).down)]) (r_whole (hm208.at 2 rfl) Tryd.underlying25 rfl (by exact sz_25) rfl rfl) ?_
  refine lm 49 (J ((rflush_m (Dk.mk y47 y50 y53 y54)).2)) ?_
  simp only [nz]
  have ho217 := (rd_one ((hm208.see 8 rfl).1))
  have ho218 := (rd_one ((hm208.see 8 rfl).2))
  refine lst rfl (m_store 3 25 _ _ 0 (.agg #[v195, v196, J (((rflush_m (Dk.mk y47 y50 y53 y54)).1).fuse), .bool (((rflush_m (Dk.mk y47 y50 y53 y54)).1).down)]) (old := #[v56, v59, J (y61 : Int), .bool (y62)]) (new := #[v195, v196, J (((rflush_m (Dk.mk y47 y50 y53 y54)).1).fuse), .bool (((rflush_m (Dk.mk y47 y50 y53 y54)).1).down)]) hm208 rfl rfl rfl rfl rfl (by exact sz_25) (show 0 + 4 ≤ 4 from by decide) a4 rfl (fun w215 hm216 => ?_))
  refine la 7 (J ((rflush_m (Dk.mk y47 y50 y53 y54)).2)) ?_
  simp only [nz]
  refine wn (tj (hK214 _ _ (wp_ret (then_r ?_))))
  have he219 : place_m d epoch l = (((rflush_m (Dk.mk y47 y50 y53 y54)).1), (rflush_m (Dk.mk y47 y50 y53 y54)).2) := (hq191.trans (show place_m_k0 d epoch l y46 y47 y50 y53 y54 y55 y58 y61 y62 = (((rflush_m (Dk.mk y47 y50 y53 y54)).1), (rflush_m (Dk.mk y47 y50 y53 y54)).2) from by unfold place_m_k0; rw [if_pos hc213] <;> rfl))
  exact ⟨rfl, .tuple #[.agg #[v195, v196, J (((rflush_m (Dk.mk y47 y50 y53 y54)).1).fuse), .bool (((rflush_m (Dk.mk y47 y50 y53 y54)).1).down)], J ((rflush_m (Dk.mk y47 y50 y53 y54)).2)], Mem.res_ct rfl rfl (hm216.at 3 rfl) Tryd.underlying25 rfl (by exact sz_25) rfl, ⟨⟨_, rfl, v195, v196, (by rw [he219]), by rw [he219]; exact hm216.give (hm216.from 8 rfl)⟩, hm216.below⟩⟩
 refine wp_skip (tj (hK211 _ _ (wk (fun K220 hK220 => ?_))))
 have hm221 := hm208.drew
 refine wp_region_held_drew (S := fun w' => Mem.Blk w' g4 (#[v195, v196, J (((rflush_m (Dk.mk y47 y50 y53 y54)).1).fuse), .bool (((rflush_m (Dk.mk y47 y50 y53 y54)).1).down)]) 25) (by kernel_rfl) (hm221.at 2 rfl) (fun _ => ?_)
 generalize w207.drew = w222 at *
 refine tk 0 50 (.agg #[v195, v196, J (((rflush_m (Dk.mk y47 y50 y53 y54)).1).fuse), .bool (((rflush_m (Dk.mk y47 y50 y53 y54)).1).down)]) rfl rfl (fun _ hw => r_whole hw Tryd.underlying25 rfl (by exact sz_25) rfl rfl) (hm221.at 2 rfl) ?_
 simp only [nz]
 refine tk 1 51 (J (epoch)) rfl rfl (fun _ hw => run_mv rfl rfl) (hm221.at 2 rfl) ?_
 simp only [nz]
 refine tk 2 52 (J ((epoch + (1 : Int)))) rfl rfl (fun _ hw => z_add epoch (1 : Int) _ (by rw [IntKind.wrap_i64]; omega) rfl rfl rfl) (hm221.at 2 rfl) ?_
 simp only [nz]
 refine one_ready 3 (by kernel_rfl) ?_
 refine opd rfl (wanted_none rfl) (m_call hm221 53 (.string (tx (rhead_m (epoch + (1 : Int))))) rfl (run_rhead rfl rfl) (rhead_any (epoch + (1 : Int))  _  ) (fun w223 hm224 => ?_))
 have hf225 : (rhead_m (epoch + (1 : Int))).length = 256 := rhead_len (epoch + (1 : Int))
 refine ⟨hm224.at 2 rfl, ?_⟩
 simp only [nz]
 refine one_ready 4 (by kernel_rfl) ?_
 refine opd rfl (wanted_none rfl) (m_make (c := #[.string (tx (rhead_m (epoch + (1 : Int))))]) (T := 9) (fun g => Sl g 0 1 1) hm224 54 rfl (by unfold execOp; go_simp; try rfl) (fun g228 w226 hm227 => ?_))
 refine ⟨hm227.at 2 rfl, ?_⟩
 simp only [nz]
 refine one_ready 5 (by kernel_rfl) ?_
 have hm231 : Mm none S w w226 [.see (DkR d dv0 dv1) Fd, .see (Rs eWr 2 l lv0) Fl, .blk g4 #[v195, v196, J (((rflush_m (Dk.mk y47 y50 y53 y54)).1).fuse), .bool (((rflush_m (Dk.mk y47 y50 y53 y54)).1).down)] 25, .blk g7 #[v56, v59, J (y61 : Int), .bool (y62)] 25, .see (Rs eS 1 y47 v48) F49, .see (Rs eWr 2 y50 v51) F52, .see (Rs eS 1 y55 v56) F57, .see (Rs eWr 2 y58 v59) F60, .see (DkR ((rflush_m (Dk.mk y47 y50 y53 y54)).1) v195 v196) F198, .see (Rs eS 1 ([(rhead_m (epoch + (1 : Int)))] : List (List UInt8)) (Sl g228 0 1 1)) (fp (Sl g228 0 1 1) (List.flatMap eS ([(rhead_m (epoch + (1 : Int)))] : List (List UInt8))))] := hm227.freezeB 9 rfl rfl rfl eS_len
 refine opd rfl (wanted_none rfl) (m_callx hm231 55 rfl (run_rall rfl rfl rfl rfl) (rall_any ((rflush_m (Dk.mk y47 y50 y53 y54)).1) 0 ([(rhead_m (epoch + (1 : Int)))] : List (List UInt8)) v195 v196 (Sl g228 0 1 1) (seeS _) _ (hm231.from 8 rfl) (hm231.from 9 rfl) (by omega) (by omega) (by omega) (by simp; done) (by omega) (by omega)) (fun vv237 w229 hR238 hb239 hm230 => ?_))
 obtain ⟨v233, v234, rfl, hg240⟩ := hR238
 obtain ⟨F236, hm241⟩ : ∃ F236, Mm none S w w229 [.see (DkR d dv0 dv1) Fd, .see (Rs eWr 2 l lv0) Fl, .blk g4 #[v195, v196, J (((rflush_m (Dk.mk y47 y50 y53 y54)).1).fuse), .bool (((rflush_m (Dk.mk y47 y50 y53 y54)).1).down)] 25, .blk g7 #[v56, v59, J (y61 : Int), .bool (y62)] 25, .see (Rs eS 1 y47 v48) F49, .see (Rs eWr 2 y50 v51) F52, .see (Rs eS 1 y55 v56) F57, .see (Rs eWr 2 y58 v59) F60, .see (DkR ((rflush_m (Dk.mk y47 y50 y53 y54)).1) v195 v196) F198, .see (Rs eS 1 ([(rhead_m (epoch + (1 : Int)))] : List (List UInt8)) (Sl g228 0 1 1)) (fp (Sl g228 0 1 1) (List.flatMap eS ([(rhead_m (epoch + (1 : Int)))] : List (List UInt8)))), .see (DkR ((rall_m ((rflush_m (Dk.mk y47 y50 y53 y54)).1) 0 ([(rhead_m (epoch + (1 : Int)))] : List (List UInt8))).1) v233 v234) F236] := Mm.tookS hm231 hb239 hg240
 clear hm230 hg240 hb239
 have hf242 : (rall_m ((rflush_m (Dk.mk y47 y50 y53 y54)).1) 0 ([(rhead_m (epoch + (1 : Int)))] : List (List UInt8))).1.safe.length = ((rflush_m (Dk.mk y47 y50 y53 y54)).1).safe.length := (rall_near ((rflush_m (Dk.mk y47 y50 y53 y54)).1) 0 ([(rhead_m (epoch + (1 : Int)))] : List (List UInt8))).1
 have hf243 : (rall_m ((rflush_m (Dk.mk y47 y50 y53 y54)).1) 0 ([(rhead_m (epoch + (1 : Int)))] : List (List UInt8))).1.loose.length ≤ ((rflush_m (Dk.mk y47 y50 y53 y54)).1).loose.length + (([(rhead_m (epoch + (1 : Int)))] : List (List UInt8)) : List (List UInt8)).length := (rall_near ((rflush_m (Dk.mk y47 y50 y53 y54)).1) 0 ([(rhead_m (epoch + (1 : Int)))] : List (List UInt8))).2.1
 have hf244 : (rall_m ((rflush_m (Dk.mk y47 y50 y53 y54)).1) 0 ([(rhead_m (epoch + (1 : Int)))] : List (List UInt8))).1.fuse ≤ 9223372036854775807 := (rall_near ((rflush_m (Dk.mk y47 y50 y53 y54)).1) 0 ([(rhead_m (epoch + (1 : Int)))] : List (List UInt8))).2.2 (show ((rflush_m (Dk.mk y47 y50 y53 y54)).1).fuse ≤ 9223372036854775807 from (by omega))
 refine ⟨hm241.at 2 rfl, ?_⟩
 simp only [nz]
 refine tk 6 56 (.agg #[v233, v234, J (((rall_m ((rflush_m (Dk.mk y47 y50 y53 y54)).1) 0 ([(rhead_m (epoch + (1 : Int)))] : List (List UInt8))).1).fuse), .bool (((rall_m ((rflush_m (Dk.mk y47 y50 y53 y54)).1) 0 ([(rhead_m (epoch + (1 : Int)))] : List (List UInt8))).1).down)]) rfl rfl (fun _ hw => run_ex rfl rfl rfl) (hm241.at 2 rfl) ?_
 simp only [nz]
 refine tk 7 57 (J ((rall_m ((rflush_m (Dk.mk y47 y50 y53 y54)).1) 0 ([(rhead_m (epoch + (1 : Int)))] : List (List UInt8))).2)) rfl rfl (fun _ hw => run_ex rfl rfl rfl) (hm241.at 2 rfl) ?_
 simp only [nz]
 refine one_ready 8 (by kernel_rfl) ?_
 have ho247 := (rd_one ((hm241.see 10 rfl).1))
 have ho248 := (rd_one ((hm241.see 10 rfl).2))
 refine opd rfl (wanted_none rfl) (m_store 3 25 _ _ 0 (.agg #[v233, v234, J (((rall_m ((rflush_m (Dk.mk y47 y50 y53 y54)).1) 0 ([(rhead_m (epoch + (1 : Int)))] : List (List UInt8))).1).fuse), .bool (((rall_m ((rflush_m (Dk.mk y47 y50 y53 y54)).1) 0 ([(rhead_m (epoch + (1 : Int)))] : List (List UInt8))).1).down)]) (old := #[v56, v59, J (y61 : Int), .bool (y62)]) (new := #[v233, v234, J (((rall_m ((rflush_m (Dk.mk y47 y50 y53 y54)).1) 0 ([(rhead_m (epoch + (1 : Int)))] : List (List UInt8))).1).fuse), .bool (((rall_m ((rflush_m (Dk.mk y47 y50 y53 y54)).1) 0 ([(rhead_m (epoch + (1 : Int)))] : List (List UInt8))).1).down)]) hm241 rfl rfl rfl rfl rfl (by exact sz_25) (show 0 + 4 ≤ 4 from by decide) a4 rfl (fun w245 hm246 => ?_))
 refine ⟨hm246.at 2 rfl, ?_⟩
 refine one_ready 9 (by kernel_rfl) ?_
 refine opd rfl (wanted_none rfl) (w_value 7 (J ((rall_m ((rflush_m (Dk.mk y47 y50 y53 y54)).1) 0 ([(rhead_m (epoch + (1 : Int)))] : List (List UInt8))).2)) rfl (run_as rfl rfl) ⟨hm246.at 2 rfl, ?_⟩)
 simp only [nz]
 refine wpAnyH_done (by kernel_rfl) ?_ _
 refine tj (hK220 _ _ (wp_ret ?_))
 have he249 : place_m d epoch l = (((rall_m ((rflush_m (Dk.mk y47 y50 y53 y54)).1) 0 ([(rhead_m (epoch + (1 : Int)))] : List (List UInt8))).1), (rall_m ((rflush_m (Dk.mk y47 y50 y53 y54)).1) 0 ([(rhead_m (epoch + (1 : Int)))] : List (List UInt8))).2) := (hq191.trans (show place_m_k0 d epoch l y46 y47 y50 y53 y54 y55 y58 y61 y62 = (((rall_m ((rflush_m (Dk.mk y47 y50 y53 y54)).1) 0 ([(rhead_m (epoch + (1 : Int)))] : List (List UInt8))).1), (rall_m ((rflush_m (Dk.mk y47 y50 y53 y54)).1) 0 ([(rhead_m (epoch + (1 : Int)))] : List (List UInt8))).2) from by unfold place_m_k0; rw [if_neg hc213] <;> rfl))
 exact ⟨rfl, .tuple #[.agg #[v233, v234, J (((rall_m ((rflush_m (Dk.mk y47 y50 y53 y54)).1) 0 ([(rhead_m (epoch + (1 : Int)))] : List (List UInt8))).1).fuse), .bool (((rall_m ((rflush_m (Dk.mk y47 y50 y53 y54)).1) 0 ([(rhead_m (epoch + (1 : Int)))] : List (List UInt8))).1).down)], J ((rall_m ((rflush_m (Dk.mk y47 y50 y53 y54)).1) 0 ([(rhead_m (epoch + (1 : Int)))] : List (List UInt8))).2)], Mem.res_ct rfl rfl (hm246.at 3 rfl) Tryd.underlying25 rfl (by exact sz_25) rfl, ⟨⟨_, rfl, v233, v234, (by rw [he249]), by rw [he249]; exact hm246.give (hm246.from 10 rfl)⟩, hm246.below⟩⟩
theorem run_place {o : Oper} {a : Act} {w : World} {x0 x1 x2 : Operand} {v0 v1 v2 : Value} (ho : o.op = .call { callee := .value (.func 53), args := #[x0, x1, x2], argTypes := #[25, 3, 23] }) (h0 : a.eval x0 = v0) (h1 : a.eval x1 = v1) (h2 : a.eval x2 = v2) :
  (execOp a.eval o).run Tryd.prog w = .ok (.enter 53 #[v0, v1, v2]) w := by
 unfold execOp
 simp only [ho]
 have hf : a.eval (.func 53) = .func (.func 53) #[] #[] := rfl
 generalize a.eval = f at *
 go_simp
end Go.Proofs.YtnmaaijeamlplaaDoor.Bk
namespace Go.Proofs.YtnmaaijeamlplaaDoor.Bk
open Go.RowKit Go.Proofs.YtnmaaijeamlplaaDoor.Mem
theorem place_eq (d : Dk) (epoch : Int) (l : List Wr) : place_m d epoch l = bring_m d epoch l := by
 have a : ∀ k z, place_m_l0 d epoch l k z = bring_m_l0 d epoch l k z := by
  intro k
  induction k with
  | zero => intro z; rfl
  | succ k ih =>
   intro z
   show place_m_b0 d epoch l (place_m_l0 d epoch l k) z.1 z.2.1 z.2.2.1 z.2.2.2.1 z.2.2.2.2.1 z.2.2.2.2.2.1 z.2.2.2.2.2.2.1 z.2.2.2.2.2.2.2.1 z.2.2.2.2.2.2.2.2 = bring_m_b0 d epoch l (bring_m_l0 d epoch l k) z.1 z.2.1 z.2.2.1 z.2.2.2.1 z.2.2.2.2.1 z.2.2.2.2.2.1 z.2.2.2.2.2.2.1 z.2.2.2.2.2.2.2.1 z.2.2.2.2.2.2.2.2
   unfold place_m_b0 bring_m_b0
   simp only [ih, rlog_is, ← put_eq]
 have b : ∀ y46 y47 y50 y53 y54 y55 y58 y61 y62, place_m_k0 d epoch l y46 y47 y50 y53 y54 y55 y58 y61 y62 = bring_m_k0 d epoch l y46 y47 y50 y53 y54 y55 y58 y61 y62 := by
  intro y46 y47 y50 y53 y54 y55 y58 y61 y62
  unfold place_m_k0 bring_m_k0
  rw [← flush_eq, rall_eq, rhead_is]
 unfold place_m bring_m
 rw [a]
 simp only [b]
theorem rformat_l (d : Dk) (N : Nat) (hN : rlog_m d = (N : Int)) : ∀ k (l : List (List UInt8)), N ≤ l.length + k → l.length ≤ N → rformat_m_l0 d (k + 1) l = .inl (l ++ List.replicate (N - l.length) (rfull_m []))
 | k, l, h, hl => by
  have E : rformat_m_l0 d (k + 1) l = rformat_m_b0 d (rformat_m_l0 d k) l := rfl
  rw [E]
  unfold rformat_m_b0
  rw [hN]
  by_cases h1 : ((l.length : Nat) : Int) < (N : Int)
  ·rw [if_pos h1]
   match k, h with
   | 0, h => omega
   | k + 1, h =>
    rw [rformat_l d N hN k _ (by rw [List.length_append, List.length_singleton]; omega) (by rw [List.length_append, List.length_singleton]; omega), List.length_append, List.length_singleton, show N - l.length = (N - (l.length + 1)) + 1 by omega, List.replicate_succ, List.append_assoc]
    rfl
  rw [if_neg h1, show N - l.length = 0 by omega]
  show _ = Sum.inl (l ++ [])
  rw [List.append_nil]
theorem rformat_eq (d : Dk) : rformat_m d = format_m d := by
 unfold rformat_m
 rw [format_is, rright_eq]
 cases hr : right_m d with
 | false => rfl
 | true =>
  rw [if_neg (by decide), if_pos rfl]
  have h8 := eight_of (d := d) (by rw [hr]; decide)
  have hN : rlog_m d = ((d.safe.length / 4 : Nat) : Int) := rlog_len d
  have hl : ([rhead_m 1] ++ [rfull_m []]).length = 2 := rfl
  have h := rformat_l d (d.safe.length / 4) hN (d.safe.length / 4 - ([rhead_m 1] ++ [rfull_m []]).length) ([rhead_m 1] ++ [rfull_m []]) (by rw [hl]; omega) (by rw [hl]; omega)
  rw [h, hl]
  show rformat_m_k0 d ([rhead_m 1] ++ [rfull_m []] ++ List.replicate (d.safe.length / 4 - 2) (rfull_m [])) = _
  unfold rformat_m_k0
  have hg : (log_m d).toNat = (d.safe.length / 4 - 2) + 1 + 1 := by rw [log_eq]; omega
  rw [rall_eq, hg, List.replicate_succ, List.replicate_succ, rhead_is, rfull_is _ (Nat.zero_le _)]
  rfl
end Go.Proofs.YtnmaaijeamlplaaDoor.Bk
namespace Go.Proofs.YtnmaaijeamlplaaDoor.Bk
open Go.RowKit
open Go.Proofs.YtnmaaijeamlplaaDoor.Sym Go.Proofs.YtnmaaijeamlplaaDoor.Mem
open Go.Proofs.YtnmaaijeamlplaaDoor.Sx hiding Mm m_alloc m_store m_call m_callx
attribute [local irreducible] right_m rright_m ready_m rready_m copied_m burn_m put_m get_m flush_m spent_m rput_m rget_m rflush_m blank_m rnew_m same_m
attribute [local irreducible] number_m value_m fill_m beginning_m log_m fits_m lists_m epoch_m
attribute [local irreducible] home_m putall_m
attribute [local irreducible] putfl_m body_m rise_m sized_m current_m join_m sum_m
attribute [local irreducible] format_m rend_m bring_m
attribute [local irreducible] commit_m
attribute [local irreducible] rlog_m four_m eight_m rread_m rfull_m
attribute [local irreducible] rhead_m rlists_m rfits_m repoch_m rbody_m
attribute [local irreducible] rall_m done_m rformat_m place_m
attribute [local irreducible] wpList Oper.wp
def good_m_b0 (d : Dk) (l : List Wr) (rec : Nat → Sum (Nat) (Bool)) (x7 : Nat) : Sum (Nat) (Bool) :=
 if x7 < l.length then
  if (l.getD x7 dWr).at_ < 0 then
   .inr false
  else
   if (((d.safe.length : Nat) : Int) - (rlog_m d)) ≤ (l.getD x7 dWr).at_ then
    .inr false
   else
    if ¬ ((l.getD x7 dWr).data).length = 256 then
     .inr false
    else
     if 0 < x7 then
      if (l.getD x7 dWr).at_ ≤ (l.getD ((((x7 : Nat) : Int) - (1 : Int)).toNat) dWr).at_ then
       .inr false
      else
       rec (x7 + 1)
     else
      rec (x7 + 1)
 else
  .inl x7
def good_m_l0 (d : Dk) (l : List Wr) : Nat → Nat → Sum (Nat) (Bool)
 | 0, zz => .inl zz
 | nq + 1, zz => good_m_b0 d l (good_m_l0 d l nq) zz
def good_m_k0 (d : Dk) (l : List Wr) (y11 : Nat) : Bool :=
 true
def good_m (d : Dk) (l : List Wr) : Bool :=
 fin (good_m_l0 d l ((l.length - 0) + 1) 0) (fun r => r) (fun zz => good_m_k0 d l zz)
theorem good_any (d : Dk) (l : List Wr) (dv0 : Value) (dv1 : Value) (lv0 : Value) (w : World) (hd : DkR d dv0 dv1 w) (hl : Rs eWr 2 l lv0 w) (hp0 : d.safe.length ≤ 8796093022208) (hp1 : d.loose.length ≤ 5864070000000) (hp2 : l.length ≤ 5864070000000) : Calls Tryd.prog 50 #[.agg #[dv0, dv1, J (d.fuse), .bool (d.down)], lv0] w (fun e w' => e = .returned (.bool ((good_m d l))) ∧ Below w.heap.size w w') := by
 go_enter Tryd.func50, Tryd.ntmps50
 have hm00 := Mm.nil none (fun _ => True) w
 obtain ⟨Fd, hm01⟩ : ∃ Fd, Mm none (fun _ => True) w w [.see (DkR d dv0 dv1) Fd] := hm00.come (DkR_all hd)
 obtain ⟨Fl, hm02⟩ : ∃ Fl, Mm none (fun _ => True) w w [.see (DkR d dv0 dv1) Fd, .see (Rs eWr 2 l lv0) Fl] := hm01.come (Rs.all hl)
 have hm0 := hm02
 refine wk (fun K1 hK1 => (wq ?_))
 refine lst rfl (m_alloc (c := #[dv0, dv1, J (d.fuse), .bool (d.down)]) (T := 25) hm0 2 rfl (run_box rfl rfl) (fun g4 w2 hm3 => ?_))
 simp only [nz]
 refine la 4 (.bool false) ?_
 simp only [nz]
 refine wn (tj (hK1 _ _ (wk (fun K5 hK5 => (wk (fun K6 hK6 => (wq ?_)))))))
 refine la 5 (J 0) ?_
 simp only [nz]
 refine wn (tj (hK6 _ _ ?_))
 refine wp_cutK (fun a' w' => ∃ (y11 : Nat) (yu0 : Nat → Value), good_m_l0 d l ((l.length - 0) + 1) 0 = .inl y11 ∧ (y11 ≤ l.length) ∧ a' = ⟨#[.agg #[dv0, dv1, J (d.fuse), .bool (d.down)], lv0, Pp g4 0, undef, yu0 0, J (y11 : Int), yu0 1, yu0 2, yu0 3, yu0 4, yu0 5, yu0 6, yu0 7, yu0 8, yu0 9, yu0 10, yu0 11, yu0 12, yu0 13, yu0 14, yu0 15, yu0 16, yu0 17, yu0 18, yu0 19, yu0 20, yu0 21, yu0 22, yu0 23, yu0 24, yu0 25, yu0 26, yu0 27, yu0 28, yu0 29, yu0 30, yu0 31, yu0 32, yu0 33, yu0 34, yu0 35, yu0 36, yu0 37, yu0 38, yu0 39, yu0 40, yu0 41, yu0 42, yu0 43, yu0 44, yu0 45, yu0 46, yu0 47, yu0 48, yu0 49, yu0 50, yu0 51, yu0 52, yu0 53], []⟩ ∧ Mm none (fun _ => True) w w' [.see (DkR d dv0 dv1) Fd, .see (Rs eWr 2 l lv0) Fl, .blk g4 #[dv0, dv1, J (d.fuse), .bool (d.down)] 25]) ?_ ?_
 ·refine wp_block ?_
  refine wp_loop_n (fun n' a' w' => ∃ (n8 : Nat) (x7 : Nat) (u0 : Nat → Value), n' = n8 ∧ (l.length - x7) < n8 ∧ good_m_l0 d l ((l.length - 0) + 1) 0 = good_m_l0 d l n8 x7 ∧ (x7 ≤ l.length) ∧ a' = ⟨#[.agg #[dv0, dv1, J (d.fuse), .bool (d.down)], lv0, Pp g4 0, undef, u0 0, J (x7 : Int), u0 1, u0 2, u0 3, u0 4, u0 5, u0 6, u0 7, u0 8, u0 9, u0 10, u0 11, u0 12, u0 13, u0 14, u0 15, u0 16, u0 17, u0 18, u0 19, u0 20, u0 21, u0 22, u0 23, u0 24, u0 25, u0 26, u0 27, u0 28, u0 29, u0 30, u0 31, u0 32, u0 33, u0 34, u0 35, u0 36, u0 37, u0 38, u0 39, u0 40, u0 41, u0 42, u0 43, u0 44, u0 45, u0 46, u0 47, u0 48, u0 49, u0 50, u0 51, u0 52, u0 53], []⟩ ∧ Mm none (fun _ => True) w w' [.see (DkR d dv0 dv1) Fd, .see (Rs eWr 2 l lv0) Fl, .blk g4 #[dv0, dv1, J (d.fuse), .bool (d.down)] 25]) ⟨((l.length - 0) + 1), 0, (fun qq => bif Nat.blt qq 24 then List.getD [.bool false, undef, undef, undef, undef, undef, undef, undef, undef, undef, undef, undef, undef, undef, undef, undef, undef, undef, undef, undef, undef, undef, undef, undef] qq undef else bif Nat.blt qq 48 then List.getD [undef, undef, undef, undef, undef, undef, undef, undef, undef, undef, undef, undef, undef, undef, undef, undef, undef, undef, undef, undef, undef, undef, undef, undef] (qq - 24) undef else List.getD [undef, undef, undef, undef, undef, undef] (qq - 48) undef), rfl, Nat.lt_succ_self _, rfl, (by omega), rfl, hm3⟩ ?_
  rintro n8 _ w13 ⟨_, x7, u0, rfl, hl17, hi10, hgo, rfl, hm14⟩ R15 hR15
  obtain ⟨k9, rfl⟩ : ∃ k, n8 = k + 1 := ⟨n8 - 1, by omega⟩
  refine wk (fun K18 hK18 => (wk (fun K19 hK19 => (wq ?_))))
  refine lm 6 (J (x7 : Int)) ?_
  refine lm 7 (lv0) ?_
  refine lw 8 (J (l.length : Int)) (s_len ((hm14.see 1 rfl)) rfl Tryd.underlying23 rfl) ?_
  simp only [nz]
  refine lw 9 (.bool (decide (x7 < l.length))) (r_lss x7 l.length rfl rfl rfl) ?_
  simp only [nz]
  refine wn (tj (hK19 _ _ ?_))
  refine cond_d (x7 < l.length) rfl (fun hc20 => ?_) (fun hc20 => ?_)
  rotate_left
  ·refine wp_exit (then_x (then_x (blk_x ?_)))
   refine tj ?_
   exact ⟨x7, (fun qq => bif Nat.blt qq 24 then List.getD [u0 0, J (x7 : Int), lv0, J (l.length : Int), .bool (decide (x7 < l.length)), u0 5, u0 6, u0 7, u0 8, u0 9, u0 10, u0 11, u0 12, u0 13, u0 14, u0 15, u0 16, u0 17, u0 18, u0 19, u0 20, u0 21, u0 22, u0 23] qq undef else bif Nat.blt qq 48 then List.getD [u0 24, u0 25, u0 26, u0 27, u0 28, u0 29, u0 30, u0 31, u0 32, u0 33, u0 34, u0 35, u0 36, u0 37, u0 38, u0 39, u0 40, u0 41, u0 42, u0 43, u0 44, u0 45, u0 46, u0 47] (qq - 24) undef else List.getD [u0 48, u0 49, u0 50, u0 51, u0 52, u0 53] (qq - 48) undef), (hi10.trans (show good_m_b0 d l (good_m_l0 d l k9) x7 = .inl x7 from by unfold good_m_b0; rw [if_neg hc20] <;> rfl)), (by omega), rfl, hm14⟩
  refine wp_skip (tj (hK18 _ _ (wk (fun K21 hK21 => ?_))))
  refine wp_block ?_
  refine wk (fun K22 hK22 => ?_)
  have hm23 := hm14.drew
  refine wp_region_held_drew (S := fun w' => Mem.Blk w' g4 (#[dv0, dv1, J (d.fuse), .bool (d.down)]) 25 ∧ Rs eWr 2 l lv0 w') (by kernel_rfl) (⟨hm23.at 2 rfl, ((hm23.see 1 rfl))⟩) (fun _ => ?_)
  generalize w13.drew = w24 at *
  refine tk 0 12 (lv0) rfl rfl (fun _ hw => run_mv rfl rfl) (⟨hm23.at 2 rfl, ((hm23.see 1 rfl))⟩) ?_
  simp only [nz]
  refine tk 1 13 (J (x7 : Int)) rfl rfl (fun _ hw => run_mv rfl rfl) (⟨hm23.at 2 rfl, ((hm23.see 1 rfl))⟩) ?_
  simp only [nz]
  refine tk 2 14 (.pointer (some ⟨(bk lv0), (po lv0 + x7 * 2), none⟩)) rfl rfl (fun _ hw => r_ixv ((hm23.see 1 rfl)) x7 (by omega) Tryd.underlying23 sz_51 rfl rfl rfl) (⟨hm23.at 2 rfl, ((hm23.see 1 rfl))⟩) ?_
  simp only [nz]
  refine tk 3 15 (.pointer (some ⟨(bk lv0), ((po lv0 + x7 * 2) + 0), none⟩)) rfl rfl (fun _ hw => r_fa51_0 (bk lv0) (po lv0 + x7 * 2) rfl rfl) (⟨hm23.at 2 rfl, ((hm23.see 1 rfl))⟩) ?_
  simp only [nz]
  refine tk 4 16 (J ((l.getD x7 dWr).at_)) rfl rfl (fun _ hw => r_cellw (Rs.cell hw.2 eWr_len dWr x7 (by omega) 0 _ rfl) Tryd.underlying3 rfl rfl rfl) (⟨hm23.at 2 rfl, ((hm23.see 1 rfl))⟩) ?_
  simp only [nz]
  refine tkb 5 17 ((l.getD x7 dWr).at_ < 0) rfl rfl rfl (fun _ hw => z_lss ((l.getD x7 dWr).at_) 0 rfl rfl rfl) (⟨hm23.at 2 rfl, ((hm23.see 1 rfl))⟩) (fun hs25 => ?_) (fun hs25 => ?_)
  ·simp only [nz]
   refine tk 6 18 (.bool true) rfl rfl (fun _ hw => run_mv rfl rfl) (⟨hm23.at 2 rfl, ((hm23.see 1 rfl))⟩) ?_
   simp only [nz]
   refine skx 7 19 rfl rfl rfl (⟨hm23.at 2 rfl, ((hm23.see 1 rfl))⟩) ?_
   simp only [nz]
   refine skx 8 20 rfl rfl rfl (⟨hm23.at 2 rfl, ((hm23.see 1 rfl))⟩) ?_
   simp only [nz]
   refine skx 9 21 rfl rfl rfl (⟨hm23.at 2 rfl, ((hm23.see 1 rfl))⟩) ?_
   simp only [nz]
   refine skx 10 22 rfl rfl rfl (⟨hm23.at 2 rfl, ((hm23.see 1 rfl))⟩) ?_
   simp only [nz]
   refine skx 11 23 rfl rfl rfl (⟨hm23.at 2 rfl, ((hm23.see 1 rfl))⟩) ?_
   simp only [nz]
   refine skx 12 24 rfl rfl rfl (⟨hm23.at 2 rfl, ((hm23.see 1 rfl))⟩) ?_
   simp only [nz]
   refine skx 13 25 rfl rfl rfl (⟨hm23.at 2 rfl, ((hm23.see 1 rfl))⟩) ?_
   simp only [nz]
   refine skx 14 26 rfl rfl rfl (⟨hm23.at 2 rfl, ((hm23.see 1 rfl))⟩) ?_
   simp only [nz]
   refine skx 15 27 rfl rfl rfl (⟨hm23.at 2 rfl, ((hm23.see 1 rfl))⟩) ?_
   simp only [nz]
   refine skx 16 28 rfl rfl rfl (⟨hm23.at 2 rfl, ((hm23.see 1 rfl))⟩) ?_
   simp only [nz]
   refine skx 17 29 rfl rfl rfl (⟨hm23.at 2 rfl, ((hm23.see 1 rfl))⟩) ?_
   simp only [nz]
   refine skx 18 30 rfl rfl rfl (⟨hm23.at 2 rfl, ((hm23.see 1 rfl))⟩) ?_
   simp only [nz]
   refine tk 19 31 (.bool true) rfl rfl (fun _ hw => run_pick rfl rfl rfl) (⟨hm23.at 2 rfl, ((hm23.see 1 rfl))⟩) ?_
   simp only [nz]
   refine tk 20 32 (.bool true) rfl rfl (fun _ hw => run_mv rfl rfl) (⟨hm23.at 2 rfl, ((hm23.see 1 rfl))⟩) ?_
   simp only [nz]
   refine skx 21 33 rfl rfl rfl (⟨hm23.at 2 rfl, ((hm23.see 1 rfl))⟩) ?_
   simp only [nz]
   refine skx 22 34 rfl rfl rfl (⟨hm23.at 2 rfl, ((hm23.see 1 rfl))⟩) ?_
   simp only [nz]
   refine skx 23 35 rfl rfl rfl (⟨hm23.at 2 rfl, ((hm23.see 1 rfl))⟩) ?_
   simp only [nz]
   refine skx 24 36 rfl rfl rfl (⟨hm23.at 2 rfl, ((hm23.see 1 rfl))⟩) ?_
   simp only [nz]
   refine skx 25 37 rfl rfl rfl (⟨hm23.at 2 rfl, ((hm23.see 1 rfl))⟩) ?_
   simp only [nz]
   refine skx 26 38 rfl rfl rfl (⟨hm23.at 2 rfl, ((hm23.see 1 rfl))⟩) ?_
   simp only [nz]
   refine skx 27 39 rfl rfl rfl (⟨hm23.at 2 rfl, ((hm23.see 1 rfl))⟩) ?_
   simp only [nz]
   refine tk 28 40 (.bool true) rfl rfl (fun _ hw => run_pick rfl rfl rfl) (⟨hm23.at 2 rfl, ((hm23.see 1 rfl))⟩) ?_
   simp only [nz]
   refine tk 29 41 (.bool true) rfl rfl (fun _ hw => run_mv rfl rfl) (⟨hm23.at 2 rfl, ((hm23.see 1 rfl))⟩) ?_
   simp only [nz]
   refine skx 30 42 rfl rfl rfl (⟨hm23.at 2 rfl, ((hm23.see 1 rfl))⟩) ?_
   simp only [nz]
   refine skx 31 43 rfl rfl rfl (⟨hm23.at 2 rfl, ((hm23.see 1 rfl))⟩) ?_
   simp only [nz]
   refine skx 32 44 rfl rfl rfl (⟨hm23.at 2 rfl, ((hm23.see 1 rfl))⟩) ?_
   simp only [nz]
   refine skx 33 45 rfl rfl rfl (⟨hm23.at 2 rfl, ((hm23.see 1 rfl))⟩) ?_
   simp only [nz]
   refine skx 34 46 rfl rfl rfl (⟨hm23.at 2 rfl, ((hm23.see 1 rfl))⟩) ?_
   simp only [nz]
   refine skx 35 47 rfl rfl rfl (⟨hm23.at 2 rfl, ((hm23.see 1 rfl))⟩) ?_
   simp only [nz]
   refine skx 36 48 rfl rfl rfl (⟨hm23.at 2 rfl, ((hm23.see 1 rfl))⟩) ?_
   simp only [nz]
   refine skx 37 49 rfl rfl rfl (⟨hm23.at 2 rfl, ((hm23.see 1 rfl))⟩) ?_
   simp only [nz]
   refine skx 38 50 rfl rfl rfl (⟨hm23.at 2 rfl, ((hm23.see 1 rfl))⟩) ?_
   simp only [nz]
   refine skx 39 51 rfl rfl rfl (⟨hm23.at 2 rfl, ((hm23.see 1 rfl))⟩) ?_
   simp only [nz]
   refine skx 40 52 rfl rfl rfl (⟨hm23.at 2 rfl, ((hm23.see 1 rfl))⟩) ?_
   simp only [nz]
   refine skx 41 53 rfl rfl rfl (⟨hm23.at 2 rfl, ((hm23.see 1 rfl))⟩) ?_
   simp only [nz]
   refine skx 42 54 rfl rfl rfl (⟨hm23.at 2 rfl, ((hm23.see 1 rfl))⟩) ?_
   simp only [nz]
   refine skx 43 55 rfl rfl rfl (⟨hm23.at 2 rfl, ((hm23.see 1 rfl))⟩) ?_
   simp only [nz]
   refine skx 44 56 rfl rfl rfl (⟨hm23.at 2 rfl, ((hm23.see 1 rfl))⟩) ?_
   simp only [nz]
   refine skx 45 57 rfl rfl rfl (⟨hm23.at 2 rfl, ((hm23.see 1 rfl))⟩) ?_
   simp only [nz]
   refine tk 46 58 (.bool true) rfl rfl (fun _ hw => run_pick rfl rfl rfl) (⟨hm23.at 2 rfl, ((hm23.see 1 rfl))⟩) ?_
   simp only [nz]
   refine wpAnyH_done (by kernel_rfl) ?_ _
   refine tj (hK22 _ _ ?_)
   refine cond_t rfl ?_
   refine wk (fun K26 hK26 => (wq ?_))
   refine la 4 (.bool false) ?_
   simp only [nz]
   refine wn (tj (hK26 _ _ (wp_ret (blk_r (then_r (then_r (blk_r (then_r (then_r ?_)))))))))
   have he27 : good_m_l0 d l ((l.length - 0) + 1) 0 = .inr false := (hi10.trans (show good_m_b0 d l (good_m_l0 d l k9) x7 = .inr false from by unfold good_m_b0; rw [if_pos hc20, if_pos hs25] <;> rfl))
   have he28 : good_m d l = false := by unfold good_m; rw [he27] <;> rfl
   exact ⟨rfl, .bool false, res_t rfl rfl, ⟨by (rw [he28]; try rfl), hm23.below⟩⟩
  simp only [nz]
  refine tk 6 18 (.bool false) rfl rfl (fun _ hw => run_mv rfl rfl) (⟨hm23.at 2 rfl, ((hm23.see 1 rfl))⟩) ?_
  simp only [nz]
  refine Sym.take_at 7 19 (lv0) rfl rfl (by kernel_rfl) (by kernel_rfl) (by kernel_rfl) (fun _ _ _ h => h) rfl (fun _ hw => run_mv rfl rfl) (⟨hm23.at 2 rfl, ((hm23.see 1 rfl))⟩) ?_
  simp only [nz]
  refine Sym.take_at 8 20 (J (x7 : Int)) rfl rfl (by kernel_rfl) (by kernel_rfl) (by kernel_rfl) (fun _ _ _ h => h) rfl (fun _ hw => run_mv rfl rfl) (⟨hm23.at 2 rfl, ((hm23.see 1 rfl))⟩) ?_
  simp only [nz]
  refine Sym.take_at 9 21 (.pointer (some ⟨(bk lv0), (po lv0 + x7 * 2), none⟩)) rfl rfl (by kernel_rfl) (by kernel_rfl) (by kernel_rfl) (fun _ _ _ h => h) rfl (fun _ hw => r_ixv ((hm23.see 1 rfl)) x7 (by omega) Tryd.underlying23 sz_51 rfl rfl rfl) (⟨hm23.at 2 rfl, ((hm23.see 1 rfl))⟩) ?_
  simp only [nz]
  refine Sym.take_at 10 22 (.pointer (some ⟨(bk lv0), ((po lv0 + x7 * 2) + 0), none⟩)) rfl rfl (by kernel_rfl) (by kernel_rfl) (by kernel_rfl) (fun _ _ _ h => h) rfl (fun _ hw => r_fa51_0 (bk lv0) (po lv0 + x7 * 2) rfl rfl) (⟨hm23.at 2 rfl, ((hm23.see 1 rfl))⟩) ?_
  simp only [nz]
  refine Sym.take_at 11 23 (J ((l.getD x7 dWr).at_)) rfl rfl (by kernel_rfl) (by kernel_rfl) (by kernel_rfl) (fun _ _ _ h => h) rfl (fun _ hw => r_cellw (Rs.cell hw.2 eWr_len dWr x7 (by omega) 0 _ rfl) Tryd.underlying3 rfl rfl rfl) (⟨hm23.at 2 rfl, ((hm23.see 1 rfl))⟩) ?_
  simp only [nz]
  refine Sym.take_at 12 24 (Pp g4 0) rfl rfl (by kernel_rfl) (by kernel_rfl) (by kernel_rfl) (fun _ _ _ h => h) rfl (fun _ hw => r_fa25_0 g4 0 rfl rfl) (⟨hm23.at 2 rfl, ((hm23.see 1 rfl))⟩) ?_
  simp only [nz]
  refine Sym.take_at 13 25 (dv0) rfl rfl (by kernel_rfl) (by kernel_rfl) (by kernel_rfl) (fun _ _ _ h => h) rfl (fun _ hw => r_load hw.1 rfl Tryd.underlying22 rfl rfl rfl) (⟨hm23.at 2 rfl, ((hm23.see 1 rfl))⟩) ?_
  simp only [nz]
  refine Sym.take_at 14 26 (J (d.safe.length : Int)) rfl rfl (by kernel_rfl) (by kernel_rfl) (by kernel_rfl) (fun _ _ _ h => h) rfl (fun _ hw => s_len ((hm23.see 0 rfl).1) rfl Tryd.underlying22 rfl) (⟨hm23.at 2 rfl, ((hm23.see 1 rfl))⟩) ?_
  simp only [nz]
  refine Sym.take_at 15 27 (.agg #[dv0, dv1, J (d.fuse), .bool (d.down)]) rfl rfl (by kernel_rfl) (by kernel_rfl) (by kernel_rfl) (fun _ _ _ h => h) rfl (fun _ hw => r_whole hw.1 Tryd.underlying25 rfl (by exact sz_25) rfl rfl) (⟨hm23.at 2 rfl, ((hm23.see 1 rfl))⟩) ?_
  simp only [nz]
  refine one_ready 16 (by kernel_rfl) ?_
  refine opd rfl rfl (m_call hm23 28 (J ((rlog_m d))) rfl (run_rlog rfl rfl) (rlog_any d dv0 dv1 _ (hm23.see 0 rfl) (by omega) (by omega)) (fun w29 hm30 => ?_))
  have hf31 : (rlog_m d) = (((d.safe.length / 4 : Nat)) : Int) := rlog_len d
  refine ⟨⟨hm30.at 2 rfl, ((hm30.see 1 rfl))⟩, ?_⟩
  simp only [nz]
  refine Sym.take_at 17 29 (J (((d.safe.length : Int) - (rlog_m d)))) rfl rfl (by kernel_rfl) (by kernel_rfl) (by kernel_rfl) (fun _ _ _ h => h) rfl (fun _ hw => z_sub (d.safe.length : Int) (rlog_m d) _ (by rw [IntKind.wrap_i64]; omega) rfl rfl rfl) (⟨hm30.at 2 rfl, ((hm30.see 1 rfl))⟩) ?_
  simp only [nz]
  refine tkb 18 30 (((d.safe.length : Int) - (rlog_m d)) ≤ (l.getD x7 dWr).at_) rfl rfl rfl (fun _ hw => z_geq ((l.getD x7 dWr).at_) ((d.safe.length : Int) - (rlog_m d)) rfl rfl rfl) (⟨hm30.at 2 rfl, ((hm30.see 1 rfl))⟩) (fun hs32 => ?_) (fun hs32 => ?_)
  ·simp only [nz]
   refine tk 19 31 (.bool true) rfl rfl (fun _ hw => run_pickf rfl rfl rfl) (⟨hm30.at 2 rfl, ((hm30.see 1 rfl))⟩) ?_
   simp only [nz]
   refine tk 20 32 (.bool true) rfl rfl (fun _ hw => run_mv rfl rfl) (⟨hm30.at 2 rfl, ((hm30.see 1 rfl))⟩) ?_
   simp only [nz]
   refine skx 21 33 rfl rfl rfl (⟨hm30.at 2 rfl, ((hm30.see 1 rfl))⟩) ?_
   simp only [nz]
   refine skx 22 34 rfl rfl rfl (⟨hm30.at 2 rfl, ((hm30.see 1 rfl))⟩) ?_
   simp only [nz]
   refine skx 23 35 rfl rfl rfl (⟨hm30.at 2 rfl, ((hm30.see 1 rfl))⟩) ?_
   simp only [nz]
   refine skx 24 36 rfl rfl rfl (⟨hm30.at 2 rfl, ((hm30.see 1 rfl))⟩) ?_
   simp only [nz]
   refine skx 25 37 rfl rfl rfl (⟨hm30.at 2 rfl, ((hm30.see 1 rfl))⟩) ?_
   simp only [nz]
   refine skx 26 38 rfl rfl rfl (⟨hm30.at 2 rfl, ((hm30.see 1 rfl))⟩) ?_
   simp only [nz]
   refine skx 27 39 rfl rfl rfl (⟨hm30.at 2 rfl, ((hm30.see 1 rfl))⟩) ?_
   simp only [nz]
   refine tk 28 40 (.bool true) rfl rfl (fun _ hw => run_pick rfl rfl rfl) (⟨hm30.at 2 rfl, ((hm30.see 1 rfl))⟩) ?_
   simp only [nz]
   refine tk 29 41 (.bool true) rfl rfl (fun _ hw => run_mv rfl rfl) (⟨hm30.at 2 rfl, ((hm30.see 1 rfl))⟩) ?_
   simp only [nz]
   refine skx 30 42 rfl rfl rfl (⟨hm30.at 2 rfl, ((hm30.see 1 rfl))⟩) ?_
   simp only [nz]
   refine skx 31 43 rfl rfl rfl (⟨hm30.at 2 rfl, ((hm30.see 1 rfl))⟩) ?_
   simp only [nz]
   refine skx 32 44 rfl rfl rfl (⟨hm30.at 2 rfl, ((hm30.see 1 rfl))⟩) ?_
   simp only [nz]
   refine skx 33 45 rfl rfl rfl (⟨hm30.at 2 rfl, ((hm30.see 1 rfl))⟩) ?_
   simp only [nz]
   refine skx 34 46 rfl rfl rfl (⟨hm30.at 2 rfl, ((hm30.see 1 rfl))⟩) ?_
   simp only [nz]
   refine skx 35 47 rfl rfl rfl (⟨hm30.at 2 rfl, ((hm30.see 1 rfl))⟩) ?_
   simp only [nz]
   refine skx 36 48 rfl rfl rfl (⟨hm30.at 2 rfl, ((hm30.see 1 rfl))⟩) ?_
   simp only [nz]
   refine skx 37 49 rfl rfl rfl (⟨hm30.at 2 rfl, ((hm30.see 1 rfl))⟩) ?_
   simp only [nz]
   refine skx 38 50 rfl rfl rfl (⟨hm30.at 2 rfl, ((hm30.see 1 rfl))⟩) ?_
   simp only [nz]
   refine skx 39 51 rfl rfl rfl (⟨hm30.at 2 rfl, ((hm30.see 1 rfl))⟩) ?_
   simp only [nz]
   refine skx 40 52 rfl rfl rfl (⟨hm30.at 2 rfl, ((hm30.see 1 rfl))⟩) ?_
   simp only [nz]
   refine skx 41 53 rfl rfl rfl (⟨hm30.at 2 rfl, ((hm30.see 1 rfl))⟩) ?_
   simp only [nz]
   refine skx 42 54 rfl rfl rfl (⟨hm30.at 2 rfl, ((hm30.see 1 rfl))⟩) ?_
   simp only [nz]
   refine skx 43 55 rfl rfl rfl (⟨hm30.at 2 rfl, ((hm30.see 1 rfl))⟩) ?_
   simp only [nz]
   refine skx 44 56 rfl rfl rfl (⟨hm30.at 2 rfl, ((hm30.see 1 rfl))⟩) ?_
   simp only [nz]
   refine skx 45 57 rfl rfl rfl (⟨hm30.at 2 rfl, ((hm30.see 1 rfl))⟩) ?_
   simp only [nz]
   refine tk 46 58 (.bool true) rfl rfl (fun _ hw => run_pick rfl rfl rfl) (⟨hm30.at 2 rfl, ((hm30.see 1 rfl))⟩) ?_
   simp only [nz]
   refine wpAnyH_done (by kernel_rfl) ?_ _
   refine tj (hK22 _ _ ?_)
   refine cond_t rfl ?_
   refine wk (fun K33 hK33 => (wq ?_))
   refine la 4 (.bool false) ?_
   simp only [nz]
   refine wn (tj (hK33 _ _ (wp_ret (blk_r (then_r (then_r (blk_r (then_r (then_r ?_)))))))))
   have he34 : good_m_l0 d l ((l.length - 0) + 1) 0 = .inr false := (hi10.trans (show good_m_b0 d l (good_m_l0 d l k9) x7 = .inr false from by unfold good_m_b0; rw [if_pos hc20, if_neg hs25, if_pos hs32] <;> rfl))
   have he35 : good_m d l = false := by unfold good_m; rw [he34] <;> rfl
   exact ⟨rfl, .bool false, res_t rfl rfl, ⟨by (rw [he35]; try rfl), hm30.below⟩⟩
  simp only [nz]
  refine tk 19 31 (.bool false) rfl rfl (fun _ hw => run_pickf rfl rfl rfl) (⟨hm30.at 2 rfl, ((hm30.see 1 rfl))⟩) ?_
  simp only [nz]
  refine tk 20 32 (.bool false) rfl rfl (fun _ hw => run_mv rfl rfl) (⟨hm30.at 2 rfl, ((hm30.see 1 rfl))⟩) ?_
  simp only [nz]
  refine Sym.take_at 21 33 (lv0) rfl rfl (by kernel_rfl) (by kernel_rfl) (by kernel_rfl) (fun _ _ _ h => h) rfl (fun _ hw => run_mv rfl rfl) (⟨hm30.at 2 rfl, ((hm30.see 1 rfl))⟩) ?_
  simp only [nz]
  refine Sym.take_at 22 34 (J (x7 : Int)) rfl rfl (by kernel_rfl) (by kernel_rfl) (by kernel_rfl) (fun _ _ _ h => h) rfl (fun _ hw => run_mv rfl rfl) (⟨hm30.at 2 rfl, ((hm30.see 1 rfl))⟩) ?_
  simp only [nz]
  refine Sym.take_at 23 35 (.pointer (some ⟨(bk lv0), (po lv0 + x7 * 2), none⟩)) rfl rfl (by kernel_rfl) (by kernel_rfl) (by kernel_rfl) (fun _ _ _ h => h) rfl (fun _ hw => r_ixv ((hm30.see 1 rfl)) x7 (by omega) Tryd.underlying23 sz_51 rfl rfl rfl) (⟨hm30.at 2 rfl, ((hm30.see 1 rfl))⟩) ?_
  simp only [nz]
  refine Sym.take_at 24 36 (.pointer (some ⟨(bk lv0), ((po lv0 + x7 * 2) + 1), none⟩)) rfl rfl (by kernel_rfl) (by kernel_rfl) (by kernel_rfl) (fun _ _ _ h => h) rfl (fun _ hw => r_fa51_1 (bk lv0) (po lv0 + x7 * 2) rfl rfl) (⟨hm30.at 2 rfl, ((hm30.see 1 rfl))⟩) ?_
  simp only [nz]
  refine Sym.take_at 25 37 (.string (tx ((l.getD x7 dWr).data))) rfl rfl (by kernel_rfl) (by kernel_rfl) (by kernel_rfl) (fun _ _ _ h => h) rfl (fun _ hw => r_cellw (Rs.cell hw.2 eWr_len dWr x7 (by omega) 1 _ rfl) Tryd.underlying9 rfl rfl rfl) (⟨hm30.at 2 rfl, ((hm30.see 1 rfl))⟩) ?_
  simp only [nz]
  refine Sym.take_at 26 38 (J ((((l.getD x7 dWr).data).length : Nat) : Int)) rfl rfl (by kernel_rfl) (by kernel_rfl) (by kernel_rfl) (fun _ _ _ h => h) rfl (fun _ hw => t_len rfl Tryd.underlying9 rfl) (⟨hm30.at 2 rfl, ((hm30.see 1 rfl))⟩) ?_
  simp only [nz]
  refine tkb 27 39 (¬ ((l.getD x7 dWr).data).length = 256) rfl rfl rfl (fun _ hw => r_neq (((l.getD x7 dWr).data).length) 256 rfl rfl rfl) (⟨hm30.at 2 rfl, ((hm30.see 1 rfl))⟩) (fun hs36 => ?_) (fun hs36 => ?_)
  ·simp only [nz]
   refine tk 28 40 (.bool true) rfl rfl (fun _ hw => run_pickf rfl rfl rfl) (⟨hm30.at 2 rfl, ((hm30.see 1 rfl))⟩) ?_
   simp only [nz]
   refine tk 29 41 (.bool true) rfl rfl (fun _ hw => run_mv rfl rfl) (⟨hm30.at 2 rfl, ((hm30.see 1 rfl))⟩) ?_
   simp only [nz]
   refine skx 30 42 rfl rfl rfl (⟨hm30.at 2 rfl, ((hm30.see 1 rfl))⟩) ?_
   simp only [nz]
   refine skx 31 43 rfl rfl rfl (⟨hm30.at 2 rfl, ((hm30.see 1 rfl))⟩) ?_
   simp only [nz]
   refine skx 32 44 rfl rfl rfl (⟨hm30.at 2 rfl, ((hm30.see 1 rfl))⟩) ?_
   simp only [nz]
   refine skx 33 45 rfl rfl rfl (⟨hm30.at 2 rfl, ((hm30.see 1 rfl))⟩) ?_
   simp only [nz]
   refine skx 34 46 rfl rfl rfl (⟨hm30.at 2 rfl, ((hm30.see 1 rfl))⟩) ?_
   simp only [nz]
   refine skx 35 47 rfl rfl rfl (⟨hm30.at 2 rfl, ((hm30.see 1 rfl))⟩) ?_
   simp only [nz]
   refine skx 36 48 rfl rfl rfl (⟨hm30.at 2 rfl, ((hm30.see 1 rfl))⟩) ?_
   simp only [nz]
   refine skx 37 49 rfl rfl rfl (⟨hm30.at 2 rfl, ((hm30.see 1 rfl))⟩) ?_
   simp only [nz]
   refine skx 38 50 rfl rfl rfl (⟨hm30.at 2 rfl, ((hm30.see 1 rfl))⟩) ?_
   simp only [nz]
   refine skx 39 51 rfl rfl rfl (⟨hm30.at 2 rfl, ((hm30.see 1 rfl))⟩) ?_
   simp only [nz]
   refine skx 40 52 rfl rfl rfl (⟨hm30.at 2 rfl, ((hm30.see 1 rfl))⟩) ?_
   simp only [nz]
   refine skx 41 53 rfl rfl rfl (⟨hm30.at 2 rfl, ((hm30.see 1 rfl))⟩) ?_
   simp only [nz]
   refine skx 42 54 rfl rfl rfl (⟨hm30.at 2 rfl, ((hm30.see 1 rfl))⟩) ?_
   simp only [nz]
   refine skx 43 55 rfl rfl rfl (⟨hm30.at 2 rfl, ((hm30.see 1 rfl))⟩) ?_
   simp only [nz]
   refine skx 44 56 rfl rfl rfl (⟨hm30.at 2 rfl, ((hm30.see 1 rfl))⟩) ?_
   simp only [nz]
   refine skx 45 57 rfl rfl rfl (⟨hm30.at 2 rfl, ((hm30.see 1 rfl))⟩) ?_
   simp only [nz]
   refine tk 46 58 (.bool true) rfl rfl (fun _ hw => run_pick rfl rfl rfl) (⟨hm30.at 2 rfl, ((hm30.see 1 rfl))⟩) ?_
   simp only [nz]
   refine wpAnyH_done (by kernel_rfl) ?_ _
   refine tj (hK22 _ _ ?_)
   refine cond_t rfl ?_
   refine wk (fun K37 hK37 => (wq ?_))
   refine la 4 (.bool false) ?_
   simp only [nz]
   refine wn (tj (hK37 _ _ (wp_ret (blk_r (then_r (then_r (blk_r (then_r (then_r ?_)))))))))
   have he38 : good_m_l0 d l ((l.length - 0) + 1) 0 = .inr false := (hi10.trans (show good_m_b0 d l (good_m_l0 d l k9) x7 = .inr false from by unfold good_m_b0; rw [if_pos hc20, if_neg hs25, if_neg hs32, if_pos hs36] <;> rfl))
   have he39 : good_m d l = false := by unfold good_m; rw [he38] <;> rfl
   exact ⟨rfl, .bool false, res_t rfl rfl, ⟨by (rw [he39]; try rfl), hm30.below⟩⟩
  simp only [nz]
  refine tk 28 40 (.bool false) rfl rfl (fun _ hw => run_pickf rfl rfl rfl) (⟨hm30.at 2 rfl, ((hm30.see 1 rfl))⟩) ?_
  simp only [nz]
  refine tk 29 41 (.bool false) rfl rfl (fun _ hw => run_mv rfl rfl) (⟨hm30.at 2 rfl, ((hm30.see 1 rfl))⟩) ?_
  simp only [nz]
  refine Sym.take_at 30 42 (J (x7 : Int)) rfl rfl (by kernel_rfl) (by kernel_rfl) (by kernel_rfl) (fun _ _ _ h => h) rfl (fun _ hw => run_mv rfl rfl) (⟨hm30.at 2 rfl, ((hm30.see 1 rfl))⟩) ?_
  simp only [nz]
  refine tkb 31 43 (0 < x7) rfl rfl rfl (fun _ hw => r_gtr x7 0 rfl rfl rfl) (⟨hm30.at 2 rfl, ((hm30.see 1 rfl))⟩) (fun hs40 => ?_) (fun hs40 => ?_)
  rotate_left
  ·simp only [nz]
   refine Sym.take_at 32 44 (.bool false) rfl rfl (by kernel_rfl) (by kernel_rfl) (by kernel_rfl) (fun _ _ _ h => h) rfl (fun _ hw => run_mv rfl rfl) (⟨hm30.at 2 rfl, ((hm30.see 1 rfl))⟩) ?_
   simp only [nz]
   refine skx 33 45 rfl rfl rfl (⟨hm30.at 2 rfl, ((hm30.see 1 rfl))⟩) ?_
   simp only [nz]
   refine skx 34 46 rfl rfl rfl (⟨hm30.at 2 rfl, ((hm30.see 1 rfl))⟩) ?_
   simp only [nz]
   refine skx 35 47 rfl rfl rfl (⟨hm30.at 2 rfl, ((hm30.see 1 rfl))⟩) ?_
   simp only [nz]
   refine skx 36 48 rfl rfl rfl (⟨hm30.at 2 rfl, ((hm30.see 1 rfl))⟩) ?_
   simp only [nz]
   refine skx 37 49 rfl rfl rfl (⟨hm30.at 2 rfl, ((hm30.see 1 rfl))⟩) ?_
   simp only [nz]
   refine skx 38 50 rfl rfl rfl (⟨hm30.at 2 rfl, ((hm30.see 1 rfl))⟩) ?_
   simp only [nz]
   refine skx 39 51 rfl rfl rfl (⟨hm30.at 2 rfl, ((hm30.see 1 rfl))⟩) ?_
   simp only [nz]
   refine skx 40 52 rfl rfl rfl (⟨hm30.at 2 rfl, ((hm30.see 1 rfl))⟩) ?_
   simp only [nz]
   refine skx 41 53 rfl rfl rfl (⟨hm30.at 2 rfl, ((hm30.see 1 rfl))⟩) ?_
   simp only [nz]
   refine skx 42 54 rfl rfl rfl (⟨hm30.at 2 rfl, ((hm30.see 1 rfl))⟩) ?_
   simp only [nz]
   refine skx 43 55 rfl rfl rfl (⟨hm30.at 2 rfl, ((hm30.see 1 rfl))⟩) ?_
   simp only [nz]
   refine skx 44 56 rfl rfl rfl (⟨hm30.at 2 rfl, ((hm30.see 1 rfl))⟩) ?_
   simp only [nz]
   refine Sym.take_at 45 57 (.bool false) rfl rfl (by kernel_rfl) (by kernel_rfl) (by kernel_rfl) (fun _ _ _ h => h) rfl (fun _ hw => run_pickf rfl rfl rfl) (⟨hm30.at 2 rfl, ((hm30.see 1 rfl))⟩) ?_
   simp only [nz]
   refine tk 46 58 (.bool false) rfl rfl (fun _ hw => run_pickf rfl rfl rfl) (⟨hm30.at 2 rfl, ((hm30.see 1 rfl))⟩) ?_
   simp only [nz]
   refine wpAnyH_done (by kernel_rfl) ?_ _
   refine tj (hK22 _ _ ?_)
   refine cond_f rfl ?_
   refine wp_skip (blk_n (tj (hK21 _ _ (wq ?_))))
   refine lm 10 (J (x7 : Int)) ?_
   refine lw 11 (J (((x7 + 1) : Nat) : Int)) (r_add x7 1 (show (x7 + 1) < 9223372036854775808 from by omega) rfl rfl rfl) ?_
   refine la 5 (J (((x7 + 1) : Nat) : Int)) ?_
   simp only [nz]
   refine wn ?_
   refine tj (hR15 _ _ _ ⟨k9, (x7 + 1), (fun qq => bif Nat.blt qq 24 then List.getD [u0 0, J (x7 : Int), lv0, J (l.length : Int), .bool (decide (x7 < l.length)), J (x7 : Int), J (((x7 + 1) : Nat) : Int), lv0, J (x7 : Int), .pointer (some ⟨(bk lv0), (po lv0 + x7 * 2), none⟩), .pointer (some ⟨(bk lv0), ((po lv0 + x7 * 2) + 0), none⟩), J ((l.getD x7 dWr).at_), .bool false, .bool false, lv0, J (x7 : Int), .pointer (some ⟨(bk lv0), (po lv0 + x7 * 2), none⟩), .pointer (some ⟨(bk lv0), ((po lv0 + x7 * 2) + 0), none⟩), J ((l.getD x7 dWr).at_), Pp g4 0, dv0, J (d.safe.length : Int), .agg #[dv0, dv1, J (d.fuse), .bool (d.down)], J ((rlog_m d))] qq undef else bif Nat.blt qq 48 then List.getD [J (((d.safe.length : Int) - (rlog_m d))), .bool false, .bool false, .bool false, lv0, J (x7 : Int), .pointer (some ⟨(bk lv0), (po lv0 + x7 * 2), none⟩), .pointer (some ⟨(bk lv0), ((po lv0 + x7 * 2) + 1), none⟩), .string (tx ((l.getD x7 dWr).data)), J ((((l.getD x7 dWr).data).length : Nat) : Int), .bool false, .bool false, .bool false, J (x7 : Int), .bool false, .bool false, undef, undef, undef, undef, undef, undef, undef, undef] (qq - 24) undef else List.getD [undef, undef, undef, undef, .bool false, .bool false] (qq - 48) undef), rfl, (by omega), (hi10.trans (show good_m_b0 d l (good_m_l0 d l k9) x7 = good_m_l0 d l k9 (x7 + 1) from by unfold good_m_b0; rw [if_pos hc20, if_neg hs25, if_neg hs32, if_neg hs36, if_neg hs40] <;> rfl)), (by omega), rfl, hm30⟩ ?_)
   omega
  simp only [nz]
  refine Sym.take_at 32 44 (.bool true) rfl rfl (by kernel_rfl) (by kernel_rfl) (by kernel_rfl) (fun _ _ _ h => h) rfl (fun _ hw => run_mv rfl rfl) (⟨hm30.at 2 rfl, ((hm30.see 1 rfl))⟩) ?_
  simp only [nz]
  refine Sym.take_at 33 45 (lv0) rfl rfl (by kernel_rfl) (by kernel_rfl) (by kernel_rfl) (fun _ _ _ h => h) rfl (fun _ hw => run_mv rfl rfl) (⟨hm30.at 2 rfl, ((hm30.see 1 rfl))⟩) ?_
  simp only [nz]
  refine Sym.take_at 34 46 (J (x7 : Int)) rfl rfl (by kernel_rfl) (by kernel_rfl) (by kernel_rfl) (fun _ _ _ h => h) rfl (fun _ hw => run_mv rfl rfl) (⟨hm30.at 2 rfl, ((hm30.see 1 rfl))⟩) ?_
  simp only [nz]
  refine Sym.take_at 35 47 (J (((x7 : Int) - (1 : Int)))) rfl rfl (by kernel_rfl) (by kernel_rfl) (by kernel_rfl) (fun _ _ _ h => h) rfl (fun _ hw => z_sub (x7 : Int) (1 : Int) _ (by rw [IntKind.wrap_i64]; omega) rfl rfl rfl) (⟨hm30.at 2 rfl, ((hm30.see 1 rfl))⟩) ?_
  simp only [nz]
  refine Sym.take_at 36 48 (.pointer (some ⟨(bk lv0), (po lv0 + ((x7 : Int) - (1 : Int)).toNat * 2), none⟩)) rfl rfl (by kernel_rfl) (by kernel_rfl) (by kernel_rfl) (fun _ _ _ h => h) rfl (fun _ hw => r_ixvZ ((hm30.see 1 rfl)) ((x7 : Int) - (1 : Int)) (by omega) (by omega) Tryd.underlying23 sz_51 rfl rfl rfl) (⟨hm30.at 2 rfl, ((hm30.see 1 rfl))⟩) ?_
  simp only [nz]
  refine Sym.take_at 37 49 (.pointer (some ⟨(bk lv0), ((po lv0 + ((x7 : Int) - (1 : Int)).toNat * 2) + 0), none⟩)) rfl rfl (by kernel_rfl) (by kernel_rfl) (by kernel_rfl) (fun _ _ _ h => h) rfl (fun _ hw => r_fa51_0 (bk lv0) (po lv0 + ((x7 : Int) - (1 : Int)).toNat * 2) rfl rfl) (⟨hm30.at 2 rfl, ((hm30.see 1 rfl))⟩) ?_
  simp only [nz]
  refine Sym.take_at 38 50 (J ((l.getD (((x7 : Int) - (1 : Int)).toNat) dWr).at_)) rfl rfl (by kernel_rfl) (by kernel_rfl) (by kernel_rfl) (fun _ _ _ h => h) rfl (fun _ hw => r_cellw (Rs.cell hw.2 eWr_len dWr (((x7 : Int) - (1 : Int)).toNat) (by omega) 0 _ rfl) Tryd.underlying3 rfl rfl rfl) (⟨hm30.at 2 rfl, ((hm30.see 1 rfl))⟩) ?_
  simp only [nz]
  refine Sym.take_at 39 51 (lv0) rfl rfl (by kernel_rfl) (by kernel_rfl) (by kernel_rfl) (fun _ _ _ h => h) rfl (fun _ hw => run_mv rfl rfl) (⟨hm30.at 2 rfl, ((hm30.see 1 rfl))⟩) ?_
  simp only [nz]
  refine Sym.take_at 40 52 (J (x7 : Int)) rfl rfl (by kernel_rfl) (by kernel_rfl) (by kernel_rfl) (fun _ _ _ h => h) rfl (fun _ hw => run_mv rfl rfl) (⟨hm30.at 2 rfl, ((hm30.see 1 rfl))⟩) ?_
  simp only [nz]
  refine Sym.take_at 41 53 (.pointer (some ⟨(bk lv0), (po lv0 + x7 * 2), none⟩)) rfl rfl (by kernel_rfl) (by kernel_rfl) (by kernel_rfl) (fun _ _ _ h => h) rfl (fun _ hw => r_ixv ((hm30.see 1 rfl)) x7 (by omega) Tryd.underlying23 sz_51 rfl rfl rfl) (⟨hm30.at 2 rfl, ((hm30.see 1 rfl))⟩) ?_
  simp only [nz]
  refine Sym.take_at 42 54 (.pointer (some ⟨(bk lv0), ((po lv0 + x7 * 2) + 0), none⟩)) rfl rfl (by kernel_rfl) (by kernel_rfl) (by kernel_rfl) (fun _ _ _ h => h) rfl (fun _ hw => r_fa51_0 (bk lv0) (po lv0 + x7 * 2) rfl rfl) (⟨hm30.at 2 rfl, ((hm30.see 1 rfl))⟩) ?_
  simp only [nz]
  refine Sym.take_at 43 55 (J ((l.getD x7 dWr).at_)) rfl rfl (by kernel_rfl) (by kernel_rfl) (by kernel_rfl) (fun _ _ _ h => h) rfl (fun _ hw => r_cellw (Rs.cell hw.2 eWr_len dWr x7 (by omega) 0 _ rfl) Tryd.underlying3 rfl rfl rfl) (⟨hm30.at 2 rfl, ((hm30.see 1 rfl))⟩) ?_
  simp only [nz]
  refine Sym.take_at 44 56 (.bool (decide ((l.getD x7 dWr).at_ ≤ (l.getD (((x7 : Int) - (1 : Int)).toNat) dWr).at_))) rfl rfl (by kernel_rfl) (by kernel_rfl) (by kernel_rfl) (fun _ _ _ h => h) rfl (fun _ hw => z_geq ((l.getD (((x7 : Int) - (1 : Int)).toNat) dWr).at_) ((l.getD x7 dWr).at_) rfl rfl rfl) (⟨hm30.at 2 rfl, ((hm30.see 1 rfl))⟩) ?_
  simp only [nz]
  refine Sym.take_at 45 57 (.bool (decide ((l.getD x7 dWr).at_ ≤ (l.getD (((x7 : Int) - (1 : Int)).toNat) dWr).at_))) rfl rfl (by kernel_rfl) (by kernel_rfl) (by kernel_rfl) (fun _ _ _ h => h) rfl (fun _ hw => run_pick rfl rfl rfl) (⟨hm30.at 2 rfl, ((hm30.see 1 rfl))⟩) ?_
  simp only [nz]
  refine tk 46 58 (.bool (decide ((l.getD x7 dWr).at_ ≤ (l.getD (((x7 : Int) - (1 : Int)).toNat) dWr).at_))) rfl rfl (fun _ hw => run_pickf rfl rfl rfl) (⟨hm30.at 2 rfl, ((hm30.see 1 rfl))⟩) ?_
  simp only [nz]
  refine wpAnyH_done (by kernel_rfl) ?_ _
  refine tj (hK22 _ _ ?_)
  refine cond_d ((l.getD x7 dWr).at_ ≤ (l.getD (((x7 : Int) - (1 : Int)).toNat) dWr).at_) rfl (fun hc41 => ?_) (fun hc41 => ?_)
  rotate_left
  ·refine wp_skip (blk_n (tj (hK21 _ _ (wq ?_))))
   refine lm 10 (J (x7 : Int)) ?_
   refine lw 11 (J (((x7 + 1) : Nat) : Int)) (r_add x7 1 (show (x7 + 1) < 9223372036854775808 from by omega) rfl rfl rfl) ?_
   refine la 5 (J (((x7 + 1) : Nat) : Int)) ?_
   simp only [nz]
   refine wn ?_
   refine tj (hR15 _ _ _ ⟨k9, (x7 + 1), (fun qq => bif Nat.blt qq 24 then List.getD [u0 0, J (x7 : Int), lv0, J (l.length : Int), .bool (decide (x7 < l.length)), J (x7 : Int), J (((x7 + 1) : Nat) : Int), lv0, J (x7 : Int), .pointer (some ⟨(bk lv0), (po lv0 + x7 * 2), none⟩), .pointer (some ⟨(bk lv0), ((po lv0 + x7 * 2) + 0), none⟩), J ((l.getD x7 dWr).at_), .bool false, .bool false, lv0, J (x7 : Int), .pointer (some ⟨(bk lv0), (po lv0 + x7 * 2), none⟩), .pointer (some ⟨(bk lv0), ((po lv0 + x7 * 2) + 0), none⟩), J ((l.getD x7 dWr).at_), Pp g4 0, dv0, J (d.safe.length : Int), .agg #[dv0, dv1, J (d.fuse), .bool (d.down)], J ((rlog_m d))] qq undef else bif Nat.blt qq 48 then List.getD [J (((d.safe.length : Int) - (rlog_m d))), .bool false, .bool false, .bool false, lv0, J (x7 : Int), .pointer (some ⟨(bk lv0), (po lv0 + x7 * 2), none⟩), .pointer (some ⟨(bk lv0), ((po lv0 + x7 * 2) + 1), none⟩), .string (tx ((l.getD x7 dWr).data)), J ((((l.getD x7 dWr).data).length : Nat) : Int), .bool false, .bool false, .bool false, J (x7 : Int), .bool true, .bool true, lv0, J (x7 : Int), J (((x7 : Int) - (1 : Int))), .pointer (some ⟨(bk lv0), (po lv0 + ((x7 : Int) - (1 : Int)).toNat * 2), none⟩), .pointer (some ⟨(bk lv0), ((po lv0 + ((x7 : Int) - (1 : Int)).toNat * 2) + 0), none⟩), J ((l.getD (((x7 : Int) - (1 : Int)).toNat) dWr).at_), lv0, J (x7 : Int)] (qq - 24) undef else List.getD [.pointer (some ⟨(bk lv0), (po lv0 + x7 * 2), none⟩), .pointer (some ⟨(bk lv0), ((po lv0 + x7 * 2) + 0), none⟩), J ((l.getD x7 dWr).at_), .bool (decide ((l.getD x7 dWr).at_ ≤ (l.getD (((x7 : Int) - (1 : Int)).toNat) dWr).at_)), .bool (decide ((l.getD x7 dWr).at_ ≤ (l.getD (((x7 : Int) - (1 : Int)).toNat) dWr).at_)), .bool (decide ((l.getD x7 dWr).at_ ≤ (l.getD (((x7 : Int) - (1 : Int)).toNat) dWr).at_))] (qq - 48) undef), rfl, (by omega), (hi10.trans (show good_m_b0 d l (good_m_l0 d l k9) x7 = good_m_l0 d l k9 (x7 + 1) from by unfold good_m_b0; rw [if_pos hc20, if_neg hs25, if_neg hs32, if_neg hs36, if_pos hs40, if_neg hc41] <;> rfl)), (by omega), rfl, hm30⟩ ?_)
   omega
  refine wk (fun K42 hK42 => (wq ?_))
  refine la 4 (.bool false) ?_
  simp only [nz]
  refine wn (tj (hK42 _ _ (wp_ret (blk_r (then_r (then_r (blk_r (then_r (then_r ?_)))))))))
  have he43 : good_m_l0 d l ((l.length - 0) + 1) 0 = .inr false := (hi10.trans (show good_m_b0 d l (good_m_l0 d l k9) x7 = .inr false from by unfold good_m_b0; rw [if_pos hc20, if_neg hs25, if_neg hs32, if_neg hs36, if_pos hs40, if_pos hc41] <;> rfl))
  have he44 : good_m d l = false := by unfold good_m; rw [he43] <;> rfl
  exact ⟨rfl, .bool false, res_t rfl rfl, ⟨by (rw [he44]; try rfl), hm30.below⟩⟩
 rintro _ w45 ⟨y11, yu0, hx12, hgo, rfl, hm46⟩
 have hq47 : good_m d l = good_m_k0 d l y11 := (show good_m d l = good_m_k0 d l y11 from by unfold good_m; rw [hx12] <;> rfl)
 refine tj (hK5 _ _ (wk (fun K48 hK48 => (wq ?_))))
 refine la 4 (.bool true) ?_
 simp only [nz]
 refine wn (tj (hK48 _ _ (wp_ret ?_)))
 have he49 : good_m d l = true := (hq47.trans (show good_m_k0 d l y11 = true from by unfold good_m_k0; rfl))
 exact ⟨rfl, .bool true, res_t rfl rfl, ⟨by (rw [he49]; try rfl), hm46.below⟩⟩
theorem run_good {o : Oper} {a : Act} {w : World} {x0 x1 : Operand} {v0 v1 : Value} (ho : o.op = .call { callee := .value (.func 50), args := #[x0, x1], argTypes := #[25, 23] }) (h0 : a.eval x0 = v0) (h1 : a.eval x1 = v1) :
  (execOp a.eval o).run Tryd.prog w = .ok (.enter 50 #[v0, v1]) w := by
 unfold execOp
 simp only [ho]
 have hf : a.eval (.func 50) = .func (.func 50) #[] #[] := rfl
 generalize a.eval = f at *
 go_simp
end Go.Proofs.YtnmaaijeamlplaaDoor.Bk
namespace Go.Proofs.YtnmaaijeamlplaaDoor.Bk
open Go.RowKit Go.Proofs.YtnmaaijeamlplaaDoor.Mem
theorem good_l (d : Dk) (l : List Wr) : ∀ k i y, l.length ≤ i + k → i ≤ l.length → -1 ≤ y → (i = 0 → y = -1) → (0 < i → y = (l.getD ((((i : Nat) : Int) - (1 : Int)).toNat) dWr).at_) → fin (good_m_l0 d l (k + 1) i) (fun r => r) (fun zz => good_m_k0 d l zz) = (rises (((d.safe.length : Nat) : Int) - rlog_m d) y (l.drop i) && (l.drop i).all (fun x => decide (x.data.length = 256)))
 | k, i, y, h, hi, hy, h0, hp => by
  have E : good_m_l0 d l (k + 1) i = good_m_b0 d l (good_m_l0 d l k) i := rfl
  rw [E]
  unfold good_m_b0
  by_cases h1 : i < l.length
  ·rw [if_pos h1, getd_drop dWr l i h1, List.all_cons]
   have R : rises (((d.safe.length : Nat) : Int) - rlog_m d) y (l.getD i dWr :: l.drop (i + 1)) = if (l.getD i dWr).at_ ≤ y then false else if (((d.safe.length : Nat) : Int) - rlog_m d) ≤ (l.getD i dWr).at_ then false else rises (((d.safe.length : Nat) : Int) - rlog_m d) (l.getD i dWr).at_ (l.drop (i + 1)) := rfl
   rw [R]
   match k, h with
   | 0, h => omega
   | k + 1, h =>
    by_cases c1 : (l.getD i dWr).at_ < 0
    ·rw [if_pos c1, if_pos (show (l.getD i dWr).at_ ≤ y by omega), Bool.false_and]
     rfl
    rw [if_neg c1]
    by_cases c2 : (((d.safe.length : Nat) : Int) - rlog_m d) ≤ (l.getD i dWr).at_
    ·rw [if_pos c2]
     by_cases c : (l.getD i dWr).at_ ≤ y
     ·rw [if_pos c, Bool.false_and]; rfl
     rw [if_neg c, if_pos c2, Bool.false_and]; rfl
    rw [if_neg c2]
    by_cases c3 : (l.getD i dWr).data.length = 256
    ·rw [if_neg (fun c => c c3), decide_eq_true c3, Bool.true_and]
     have ih := good_l d l k (i + 1) (l.getD i dWr).at_ (by omega) (by omega) (by omega) (fun c => by omega) (fun _ => by rw [show (((i + 1 : Nat) : Int) - (1 : Int)).toNat = i by omega])
     by_cases c4 : 0 < i
     ·rw [if_pos c4, ← hp c4]
      by_cases c : (l.getD i dWr).at_ ≤ y
      ·rw [if_pos c, if_pos c, Bool.false_and]; rfl
      rw [if_neg c, if_neg c, if_neg c2]
      exact ih
     rw [if_neg c4, if_neg (show ¬ (l.getD i dWr).at_ ≤ y by have := h0 (by omega); omega), if_neg c2]
     exact ih
    rw [if_pos c3, decide_eq_false c3, Bool.false_and, Bool.and_false]
    rfl
  rw [if_neg h1, List.drop_eq_nil_of_le (by omega)]
  rfl
theorem good_is (d : Dk) (l : List Wr) : good_m d l = (rise_m d l && sized_m l) := by
 rw [rise_is, sized_is, ← rlog_is]
 exact good_l d l (l.length - 0) 0 (-1) (by omega) (Nat.zero_le _) (by omega) (fun _ => rfl) (fun c => absurd c (by decide))
theorem good_of {d : Dk} {l : List Wr} (h : ¬ (!(good_m d l)) = true) : rise_m d l = true ∧ sized_m l = true := by
 have a := not_not_b h
 rw [good_is, Bool.and_eq_true] at a
 exact a
theorem good_body {d : Dk} {epoch : Int} {l : List Wr} (h : ¬ (!(good_m d l)) = true) : ∀ s ∈ rbody_m epoch l, s.length = 256 := by
 rw [rbody_eq]
 exact body_all epoch l (sized_of (by rw [(good_of h).2]; decide))
theorem good_ats {d : Dk} {l : List Wr} (h1 : ¬ (!(rright_m d)) = true) (h : ¬ (!(good_m d l)) = true) : ∀ x ∈ l, -1000000 ≤ x.at_ ∧ x.at_ ≤ 1000000 :=
 rise_ats (d := d) (by rwa [rright_eq] at h1) (by rw [(good_of h).1]; decide)
theorem epoch_pos {d : Dk} (h : ¬ (!((epoch_m d).2)) = true) : 1 ≤ (epoch_m d).1 := by
 have e := not_not_b h
 revert e
 unfold epoch_m
 split
 ·exact fun h => absurd h (by decide)
 split
 ·exact fun h => absurd h (by decide)
 split
 ·exact fun _ => by assumption
 exact fun h => nomatch (show false = true from h)
theorem repoch_pos {d : Dk} (h : ¬ (!((repoch_m d).2)) = true) : 1 ≤ (repoch_m d).1 := by
 rw [repoch_eq] at h ⊢
 exact epoch_pos h
theorem rfitsd_any (d : Dk) (n : Int) (dv0 : Value) (dv1 : Value) (w : World) (hd : DkR d dv0 dv1 w) (hp0 : d.safe.length ≤ 8796093022208) (hp1 : d.loose.length ≤ 5864070000000) : Calls Tryd.prog 16 #[.agg #[dv0, dv1, J (d.fuse), .bool (d.down)], J n] w (fun e w' => e = .returned (.bool (decide ((0 : Int) ≤ n ∧ (n : Int) ≤ (((d.safe).length : Nat) : Int) ∧ ((n : Int) + 60) / 61 + n + 2 ≤ (((((d.safe).length / 4 : Nat)) : Int))))) ∧ Below w.heap.size w w') := by
 have h := rfits_any d n dv0 dv1 w hd hp0 hp1
 rw [rfits_eq, fits_is] at h
 have e : decide (FitsP d n) = decide ((0 : Int) ≤ n ∧ (n : Int) ≤ (((d.safe).length : Nat) : Int) ∧ ((n : Int) + 60) / 61 + n + 2 ≤ (((((d.safe).length / 4 : Nat)) : Int))) := decide_eq_decide.2 Iff.rfl
 rwa [e] at h
theorem rbody_len (epoch : Int) (l : List Wr) : (rbody_m epoch l).length = (l.length + 60) / 61 + l.length := by rw [rbody_eq]; exact body_len epoch l
end Go.Proofs.YtnmaaijeamlplaaDoor.Bk
