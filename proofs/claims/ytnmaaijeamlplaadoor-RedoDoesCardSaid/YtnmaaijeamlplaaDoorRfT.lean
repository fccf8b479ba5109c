import Derived.Test.YtnmaaijeamlplaaDoorRfI
import Derived.Test.YtnmaaijeamlplaaDoorReR
set_option linter.unusedVariables false
set_option linter.unusedSimpArgs false
set_option maxHeartbeats 4000000
set_option maxRecDepth 100000
namespace Go.Proofs.YtnmaaijeamlplaaDoor.Bk
open Go.RowKit
open Go.Proofs.YtnmaaijeamlplaaDoor.Sym Go.Proofs.YtnmaaijeamlplaaDoor.Mem
open Go.Proofs.YtnmaaijeamlplaaDoor.Sx hiding Mm m_alloc m_store m_call m_callx
attribute [local irreducible] right_m rright_m ready_m rready_m copied_m burn_m put_m get_m flush_m spent_m rput_m rget_m rflush_m blank_m rnew_m same_m
attribute [local irreducible] number_m value_m fill_m beginning_m log_m fits_m lists_m epoch_m
attribute [local irreducible] home_m putall_m
attribute [local irreducible] putfl_m body_m rise_m sized_m current_m join_m sum_m
attribute [local irreducible] format_m rend_m bring_m
attribute [local irreducible] commit_m
attribute [local irreducible] rlog_m four_m eight_m rread_m rfull_m
attribute [local irreducible] rhead_m rlists_m rfits_m repoch_m rbody_m
attribute [local irreducible] rall_m done_m rformat_m place_m
attribute [local irreducible] good_m rcommit_m
attribute [local irreducible] rsector_m
attribute [local irreducible] wpList Oper.wp
def logged_m_b0 (d : Dk) (epoch : Int) (rec : (List (List UInt8)) × Nat → Sum ((List (List UInt8)) × Nat) ((List Wr) × Bool × Int)) (l39 : List (List UInt8)) (x41 : Nat) : Sum ((List (List UInt8)) × Nat) ((List Wr) × Bool × Int) :=
 if ((x41 : Nat) : Int) < ((rlists_m (rread_m (((rsector_m d 1).take 16).drop 12))) + (rread_m (((rsector_m d 1).take 16).drop 12))) then
  rec ((l39 ++ [(rsector_m d (((2 + x41) : Nat) : Int))]), (x41 + 1))
 else
  .inl (l39, x41)
def logged_m_l0 (d : Dk) (epoch : Int) : Nat → (List (List UInt8)) × Nat → Sum ((List (List UInt8)) × Nat) ((List Wr) × Bool × Int)
 | 0, zz => .inl zz
 | nq + 1, zz => logged_m_b0 d epoch (logged_m_l0 d epoch nq) zz.1 zz.2
def logged_m_b1 (d : Dk) (epoch : Int) (y45 : List (List UInt8)) (y47 : Nat) (rec : (List Wr) × Nat → Sum ((List Wr) × Nat) ((List Wr) × Bool × Int)) (l75 : List Wr) (x77 : Nat) : Sum ((List Wr) × Nat) ((List Wr) × Bool × Int) :=
 if ((x77 : Nat) : Int) < (rread_m (((rsector_m d 1).take 16).drop 12)) then
  rec ((l75 ++ [(Wr.mk (rread_m (((y45.getD (x77 / 61) []).take ((12 + (4 * (x77 % 61))) + 4)).drop (12 + (4 * (x77 % 61))))) (y45.getD (((rlists_m (rread_m (((rsector_m d 1).take 16).drop 12))) + ((x77 : Nat) : Int)).toNat) []))]), (x77 + 1))
 else
  .inl (l75, x77)
def logged_m_l1 (d : Dk) (epoch : Int) (y45 : List (List UInt8)) (y47 : Nat) : Nat → (List Wr) × Nat → Sum ((List Wr) × Nat) ((List Wr) × Bool × Int)
 | 0, zz => .inl zz
 | nq + 1, zz => logged_m_b1 d epoch y45 y47 (logged_m_l1 d epoch y45 y47 nq) zz.1 zz.2
def logged_m_k1 (d : Dk) (epoch : Int) (y45 : List (List UInt8)) (y47 : Nat) (y81 : List Wr) (y83 : Nat) : (List Wr) × Bool × Int :=
 if ¬ (rsector_m d 1) = (done_m epoch (rread_m (((rsector_m d 1).take 16).drop 12)) y45) then
  (([] : List Wr), false, 20)
 else
  if (!(good_m d y81)) = true then
   (([] : List Wr), false, 20)
  else
   (y81, true, 0)
def logged_m_k0 (d : Dk) (epoch : Int) (y45 : List (List UInt8)) (y47 : Nat) : (List Wr) × Bool × Int :=
 fin (logged_m_l1 d epoch y45 y47 (((rread_m (((rsector_m d 1).take 16).drop 12)) - ((0 : Nat) : Int)).toNat + 1) (([] : List Wr), 0)) (fun r => r) (fun zz => logged_m_k1 d epoch y45 y47 zz.1 zz.2)
def logged_m (d : Dk) (epoch : Int) : (List Wr) × Bool × Int :=
 if ¬ ((rsector_m d 1).take 12) = ([68, 79, 78, 69] ++ (eight_m epoch)) then
  (([] : List Wr), false, 0)
 else
  if (rread_m (((rsector_m d 1).take 16).drop 12)) < 1 then
   (([] : List Wr), false, 0)
  else
   if ¬ (((0 : Int) ≤ (rread_m (((rsector_m d 1).take 16).drop 12)) ∧ ((rread_m (((rsector_m d 1).take 16).drop 12)) : Int) ≤ (((d.safe).length : Nat) : Int) ∧ (((rread_m (((rsector_m d 1).take 16).drop 12)) : Int) + 60) / 61 + (rread_m (((rsector_m d 1).take 16).drop 12)) + 2 ≤ (((((d.safe).length / 4 : Nat)) : Int)))) then
    (([] : List Wr), false, 0)
   else
    fin (logged_m_l0 d epoch ((((rlists_m (rread_m (((rsector_m d 1).take 16).drop 12))) + (rread_m (((rsector_m d 1).take 16).drop 12))) - ((0 : Nat) : Int)).toNat + 1) (([] : List (List UInt8)), 0)) (fun r => r) (fun zz => logged_m_k0 d epoch zz.1 zz.2)
theorem logged_any (d : Dk) (epoch : Int) (dv0 : Value) (dv1 : Value) (S : Nat → Prop) (w : World) (hd : From S (DkR d dv0 dv1) w) (hT : Laid2 w) (hp0 : d.safe.length ≤ 8796093022208) (hp1 : d.loose.length ≤ 5864070000000) (hp2 : rright_m d = true) (hp3 : d.down = false) : Calls Tryd.prog 57 #[.agg #[dv0, dv1, J (d.fuse), .bool (d.down)], J (epoch)] w (fun e w' => (∃ v, e = .returned v ∧ ∃ (o0 : Value), v = .tuple #[o0, .bool ((logged_m d epoch).2.1), J ((logged_m d epoch).2.2)] ∧ Gives w w' S (Rs eWr 2 ((logged_m d epoch).1) o0)) ∧ Below w.heap.size w w') := by
 go_enter Tryd.func57, Tryd.ntmps57
 have hm00 := Mm.nil none S w
 obtain ⟨Fd, hm01⟩ := hm00.come hd
 have hm0 := hm01
 refine wk (fun K1 hK1 => (wq ?_))
 refine lst rfl (m_alloc (c := #[dv0, dv1, J (d.fuse), .bool (d.down)]) (T := 25) hm0 2 rfl (run_box rfl rfl) (fun g4 w2 hm3 => ?_))
 simp only [nz]
 refine la 4 (.slice none 0 0) ?_
 refine la 5 (.bool false) ?_
 refine la 6 (J 0) ?_
 simp only [nz]
 refine wn (tj (hK1 _ _ (wk (fun K5 hK5 => (wq ?_)))))
 refine lw 15 (.agg #[dv0, dv1, J (d.fuse), .bool (d.down)]) (r_whole (hm3.at 1 rfl) Tryd.underlying25 rfl (by exact sz_25) rfl rfl) ?_
 simp only [nz]
 refine lst rfl (m_call hm3 16 (.string (tx (rsector_m d 1))) rfl (run_rsector rfl rfl rfl) (rsector_any d 1 dv0 dv1 _ (hm3.see 0 rfl) (by omega) (by omega)) (fun w6 hm7 => ?_))
 have hf8 : (rsector_m d 1).length = 256 := rsec_len (d := d) (at_ := 1) (by assumption) (by assumption) (by omega) (by have h8 := reight_b (d := d) (by assumption); omega)
 simp only [nz]
 refine la 7 (.string (tx (rsector_m d 1))) ?_
 simp only [nz]
 refine wn (tj (hK5 _ _ (wk (fun K9 hK9 => (wq ?_)))))
 refine lm 17 (.string (tx (rsector_m d 1))) ?_
 refine lw 18 (.string (tx (((rsector_m d 1).take 16).drop 12))) (t_cut (rsector_m d 1) 12 16 (by omega) (by omega) Tryd.underlying9 rfl rfl rfl rfl) ?_
 simp only [nz]
 refine lst rfl (m_call hm7 19 (J ((rread_m (((rsector_m d 1).take 16).drop 12)))) rfl (run_rread rfl rfl) (rread_any (((rsector_m d 1).take 16).drop 12)  _  (by rw [List.length_drop, List.length_take]; omega)) (fun w10 hm11 => ?_))
 simp only [nz]
 refine la 8 (J ((rread_m (((rsector_m d 1).take 16).drop 12)))) ?_
 simp only [nz]
 refine wn (tj (hK9 _ _ (wk (fun K12 hK12 => (wk (fun K13 hK13 => ?_))))))
 have hm14 := hm11.drew
 refine wp_region_held_drew (S := fun w' => Mem.Blk w' g4 (#[dv0, dv1, J (d.fuse), .bool (d.down)]) 25) (by kernel_rfl) (hm14.at 1 rfl) (fun _ => ?_)
 generalize w10.drew = w15 at *
 refine tk 0 20 (.string (tx (rsector_m d 1))) rfl rfl (fun _ hw => run_mv rfl rfl) (hm14.at 1 rfl) ?_
 simp only [nz]
 refine tk 1 21 (.string (tx ((rsector_m d 1).take 12))) rfl rfl (fun _ hw => t_to (rsector_m d 1) 12 (by omega) Tryd.underlying9 rfl rfl rfl) (hm14.at 1 rfl) ?_
 simp only [nz]
 refine tk 2 22 (J (epoch)) rfl rfl (fun _ hw => run_mv rfl rfl) (hm14.at 1 rfl) ?_
 simp only [nz]
 refine one_ready 3 (by kernel_rfl) ?_
 refine opd rfl (wanted_none rfl) (m_call hm14 23 (.string (tx (eight_m epoch))) rfl (run_eight rfl rfl) (eight_any epoch  _  ) (fun w16 hm17 => ?_))
 have hf18 : (eight_m epoch).length = 8 := eight_len epoch
 refine ⟨hm17.at 1 rfl, ?_⟩
 simp only [nz]
 refine tk 4 24 (.string (tx ([68, 79, 78, 69] ++ (eight_m epoch)))) rfl rfl (fun _ hw => t_cat ([68, 79, 78, 69]) (eight_m epoch) (by simp; omega) rfl rfl rfl) (hm17.at 1 rfl) ?_
 simp only [nz]
 refine tkb 5 25 (¬ ((rsector_m d 1).take 12) = ([68, 79, 78, 69] ++ (eight_m epoch))) rfl rfl rfl (fun _ hw => t_neq ((rsector_m d 1).take 12) ([68, 79, 78, 69] ++ (eight_m epoch)) rfl rfl rfl) (hm17.at 1 rfl) (fun hs19 => ?_) (fun hs19 => ?_)
 ·simp only [nz]
  refine tk 6 26 (.bool true) rfl rfl (fun _ hw => run_mv rfl rfl) (hm17.at 1 rfl) ?_
  simp only [nz]
  refine skx 7 27 rfl rfl rfl (hm17.at 1 rfl) ?_
  simp only [nz]
  refine skx 8 28 rfl rfl rfl (hm17.at 1 rfl) ?_
  simp only [nz]
  refine tk 9 29 (.bool true) rfl rfl (fun _ hw => run_pick rfl rfl rfl) (hm17.at 1 rfl) ?_
  simp only [nz]
  refine tk 10 30 (.bool true) rfl rfl (fun _ hw => run_mv rfl rfl) (hm17.at 1 rfl) ?_
  simp only [nz]
  refine skx 11 31 rfl rfl rfl (hm17.at 1 rfl) ?_
  simp only [nz]
  refine skx 12 32 rfl rfl rfl (hm17.at 1 rfl) ?_
  simp only [nz]
  refine skx 13 33 rfl rfl rfl (hm17.at 1 rfl) ?_
  simp only [nz]
  refine skx 14 34 rfl rfl rfl (hm17.at 1 rfl) ?_
  simp only [nz]
  refine tk 15 35 (.bool true) rfl rfl (fun _ hw => run_pick rfl rfl rfl) (hm17.at 1 rfl) ?_
  simp only [nz]
  refine wpAnyH_done (by kernel_rfl) ?_ _
  refine tj (hK13 _ _ ?_)
  refine cond_t rfl ?_
  refine wk (fun K20 hK20 => (wq ?_))
  refine la 4 (.slice none 0 0) ?_
  refine la 5 (.bool false) ?_
  refine la 6 (J 0) ?_
  simp only [nz]
  refine wn (tj (hK20 _ _ (wp_ret (then_r ?_))))
  have he21 : logged_m d epoch = (([] : List Wr), false, 0) := by unfold logged_m; rw [if_pos hs19] <;> rfl
  exact ⟨rfl, .tuple #[.slice none 0 0, .bool false, J 0], res_ttt rfl rfl rfl rfl, ⟨⟨_, rfl, (.slice none 0 0), (by rw [he21]), by rw [he21]; exact hm17.give (From.pure (fun W => Rs.nil eWr 2 W))⟩, hm17.below⟩⟩
 simp only [nz]
 refine tk 6 26 (.bool false) rfl rfl (fun _ hw => run_mv rfl rfl) (hm17.at 1 rfl) ?_
 simp only [nz]
 refine Sym.take_at 7 27 (J ((rread_m (((rsector_m d 1).take 16).drop 12)))) rfl rfl (by kernel_rfl) (by kernel_rfl) (by kernel_rfl) (fun _ _ _ h => h) rfl (fun _ hw => run_mv rfl rfl) (hm17.at 1 rfl) ?_
 simp only [nz]
 refine tkb 8 28 ((rread_m (((rsector_m d 1).take 16).drop 12)) < 1) rfl rfl rfl (fun _ hw => z_lss (rread_m (((rsector_m d 1).take 16).drop 12)) 1 rfl rfl rfl) (hm17.at 1 rfl) (fun hs22 => ?_) (fun hs22 => ?_)
 ·simp only [nz]
  refine tk 9 29 (.bool true) rfl rfl (fun _ hw => run_pickf rfl rfl rfl) (hm17.at 1 rfl) ?_
  simp only [nz]
  refine tk 10 30 (.bool true) rfl rfl (fun _ hw => run_mv rfl rfl) (hm17.at 1 rfl) ?_
  simp only [nz]
  refine skx 11 31 rfl rfl rfl (hm17.at 1 rfl) ?_
  simp only [nz]
  refine skx 12 32 rfl rfl rfl (hm17.at 1 rfl) ?_
  simp only [nz]
  refine skx 13 33 rfl rfl rfl (hm17.at 1 rfl) ?_
  simp only [nz]
  refine skx 14 34 rfl rfl rfl (hm17.at 1 rfl) ?_
  simp only [nz]
  refine tk 15 35 (.bool true) rfl rfl (fun _ hw => run_pick rfl rfl rfl) (hm17.at 1 rfl) ?_
  simp only [nz]
  refine wpAnyH_done (by kernel_rfl) ?_ _
  refine tj (hK13 _ _ ?_)
  refine cond_t rfl ?_
  refine wk (fun K23 hK23 => (wq ?_))
  refine la 4 (.slice none 0 0) ?_
  refine la 5 (.bool false) ?_
  refine la 6 (J 0) ?_
  simp only [nz]
  refine wn (tj (hK23 _ _ (wp_ret (then_r ?_))))
  have he24 : logged_m d epoch = (([] : List Wr), false, 0) := by unfold logged_m; rw [if_neg hs19, if_pos hs22] <;> rfl
  exact ⟨rfl, .tuple #[.slice none 0 0, .bool false, J 0], res_ttt rfl rfl rfl rfl, ⟨⟨_, rfl, (.slice none 0 0), (by rw [he24]), by rw [he24]; exact hm17.give (From.pure (fun W => Rs.nil eWr 2 W))⟩, hm17.below⟩⟩
 simp only [nz]
 refine tk 9 29 (.bool false) rfl rfl (fun _ hw => run_pickf rfl rfl rfl) (hm17.at 1 rfl) ?_
 simp only [nz]
 refine tk 10 30 (.bool false) rfl rfl (fun _ hw => run_mv rfl rfl) (hm17.at 1 rfl) ?_
 simp only [nz]
 refine Sym.take_at 11 31 (.agg #[dv0, dv1, J (d.fuse), .bool (d.down)]) rfl rfl (by kernel_rfl) (by kernel_rfl) (by kernel_rfl) (fun _ _ _ h => h) rfl (fun _ hw => r_whole hw Tryd.underlying25 rfl (by exact sz_25) rfl rfl) (hm17.at 1 rfl) ?_
 simp only [nz]
 refine Sym.take_at 12 32 (J ((rread_m (((rsector_m d 1).take 16).drop 12)))) rfl rfl (by kernel_rfl) (by kernel_rfl) (by kernel_rfl) (fun _ _ _ h => h) rfl (fun _ hw => run_mv rfl rfl) (hm17.at 1 rfl) ?_
 simp only [nz]
 refine one_ready 13 (by kernel_rfl) ?_
 refine opd rfl rfl (m_call hm17 33 (.bool (decide (((0 : Int) ≤ (rread_m (((rsector_m d 1).take 16).drop 12)) ∧ ((rread_m (((rsector_m d 1).take 16).drop 12)) : Int) ≤ (((d.safe).length : Nat) : Int) ∧ (((rread_m (((rsector_m d 1).take 16).drop 12)) : Int) + 60) / 61 + (rread_m (((rsector_m d 1).take 16).drop 12)) + 2 ≤ (((((d.safe).length / 4 : Nat)) : Int)))))) rfl (run_rfits rfl rfl rfl) (rfitsd_any d (rread_m (((rsector_m d 1).take 16).drop 12)) dv0 dv1 _ (hm17.see 0 rfl) (by omega) (by omega)) (fun w25 hm26 => ?_))
 refine ⟨hm26.at 1 rfl, ?_⟩
 simp only [nz]
 refine Sym.take_at 14 34 (.bool (decide (¬ (((0 : Int) ≤ (rread_m (((rsector_m d 1).take 16).drop 12)) ∧ ((rread_m (((rsector_m d 1).take 16).drop 12)) : Int) ≤ (((d.safe).length : Nat) : Int) ∧ (((rread_m (((rsector_m d 1).take 16).drop 12)) : Int) + 60) / 61 + (rread_m (((rsector_m d 1).take 16).drop 12)) + 2 ≤ (((((d.safe).length / 4 : Nat)) : Int))))))) rfl rfl (by kernel_rfl) (by kernel_rfl) (by kernel_rfl) (fun _ _ _ h => h) rfl (fun _ hw => r_notD (((0 : Int) ≤ (rread_m (((rsector_m d 1).take 16).drop 12)) ∧ ((rread_m (((rsector_m d 1).take 16).drop 12)) : Int) ≤ (((d.safe).length : Nat) : Int) ∧ (((rread_m (((rsector_m d 1).take 16).drop 12)) : Int) + 60) / 61 + (rread_m (((rsector_m d 1).take 16).drop 12)) + 2 ≤ (((((d.safe).length / 4 : Nat)) : Int)))) rfl rfl) (hm26.at 1 rfl) ?_
 simp only [nz]
 refine tk 15 35 (.bool (decide (¬ (((0 : Int) ≤ (rread_m (((rsector_m d 1).take 16).drop 12)) ∧ ((rread_m (((rsector_m d 1).take 16).drop 12)) : Int) ≤ (((d.safe).length : Nat) : Int) ∧ (((rread_m (((rsector_m d 1).take 16).drop 12)) : Int) + 60) / 61 + (rread_m (((rsector_m d 1).take 16).drop 12)) + 2 ≤ (((((d.safe).length / 4 : Nat)) : Int))))))) rfl rfl (fun _ hw => run_pickf rfl rfl rfl) (hm26.at 1 rfl) ?_
 simp only [nz]
 refine wpAnyH_done (by kernel_rfl) ?_ _
 refine tj (hK13 _ _ ?_)
 refine cond_d (¬ (((0 : Int) ≤ (rread_m (((rsector_m d 1).take 16).drop 12)) ∧ ((rread_m (((rsector_m d 1).take 16).drop 12)) : Int) ≤ (((d.safe).length : Nat) : Int) ∧ (((rread_m (((rsector_m d 1).take 16).drop 12)) : Int) + 60) / 61 + (rread_m (((rsector_m d 1).take 16).drop 12)) + 2 ≤ (((((d.safe).length / 4 : Nat)) : Int))))) rfl (fun hc27 => ?_) (fun hc27 => ?_)
 ·refine wk (fun K28 hK28 => (wq ?_))
  refine la 4 (.slice none 0 0) ?_
  refine la 5 (.bool false) ?_
  refine la 6 (J 0) ?_
  simp only [nz]
  refine wn (tj (hK28 _ _ (wp_ret (then_r ?_))))
  have he29 : logged_m d epoch = (([] : List Wr), false, 0) := by unfold logged_m; rw [if_neg hs19, if_neg hs22, if_pos hc27] <;> rfl
  exact ⟨rfl, .tuple #[.slice none 0 0, .bool false, J 0], res_ttt rfl rfl rfl rfl, ⟨⟨_, rfl, (.slice none 0 0), (by rw [he29]), by rw [he29]; exact hm26.give (From.pure (fun W => Rs.nil eWr 2 W))⟩, hm26.below⟩⟩
 refine wp_skip (tj (hK12 _ _ (wk (fun K30 hK30 => (wq ?_)))))
 refine lm 36 (J ((rread_m (((rsector_m d 1).take 16).drop 12)))) ?_
 simp only [nz]
 refine lst rfl (m_call hm26 37 (J ((rlists_m (rread_m (((rsector_m d 1).take 16).drop 12))))) rfl (run_rlists rfl rfl) (rlists_any (rread_m (((rsector_m d 1).take 16).drop 12))  _  (by omega) (by omega)) (fun w31 hm32 => ?_))
 have hf33 : (rlists_m (rread_m (((rsector_m d 1).take 16).drop 12))) = ((rread_m (((rsector_m d 1).take 16).drop 12)) + 60) / 61 := rlists_is (rread_m (((rsector_m d 1).take 16).drop 12))
 simp only [nz]
 refine la 9 (J ((rlists_m (rread_m (((rsector_m d 1).take 16).drop 12))))) ?_
 simp only [nz]
 refine wn (tj (hK30 _ _ (wk (fun K34 hK34 => (wq ?_)))))
 refine la 10 (.slice none 0 0) ?_
 simp only [nz]
 refine wn (tj (hK34 _ _ (wk (fun K35 hK35 => (wk (fun K36 hK36 => (wq ?_)))))))
 refine la 11 (J 0) ?_
 simp only [nz]
 refine wn (tj (hK36 _ _ ?_))
 have hm38 : Mm none S w w31 [.see (DkR d dv0 dv1) Fd, .blk g4 #[dv0, dv1, J (d.fuse), .bool (d.down)] 25, .row (.slice none 0 0) ([] : List (List UInt8)).length (([] : List (List UInt8)).flatMap eS) 9 1] := hm32.nilrow 9 1
 refine wp_cutK (fun a' w' => ∃ (y45 : List (List UInt8)) (y47 : Nat) (v46 : Value) (yu0 : Nat → Value), logged_m_l0 d epoch ((((rlists_m (rread_m (((rsector_m d 1).take 16).drop 12))) + (rread_m (((rsector_m d 1).take 16).drop 12))) - ((0 : Nat) : Int)).toNat + 1) (([] : List (List UInt8)), 0) = .inl (y45, y47) ∧ (y45.length = y47 ∧ (y47 : Int) ≤ 600 ∧ rlists_m (rread_m (((rsector_m d 1).take 16).drop 12)) + (rread_m (((rsector_m d 1).take 16).drop 12)) ≤ (y47 : Int)) ∧ (∀ s ∈ y45, s.length = 256) ∧ a' = ⟨#[.agg #[dv0, dv1, J (d.fuse), .bool (d.down)], J (epoch), Pp g4 0, undef, .slice none 0 0, .bool false, J 0, .string (tx (rsector_m d 1)), J ((rread_m (((rsector_m d 1).take 16).drop 12))), J ((rlists_m (rread_m (((rsector_m d 1).take 16).drop 12)))), v46, J (y47 : Int), undef, undef, undef, .agg #[dv0, dv1, J (d.fuse), .bool (d.down)], .string (tx (rsector_m d 1)), .string (tx (rsector_m d 1)), .string (tx (((rsector_m d 1).take 16).drop 12)), J ((rread_m (((rsector_m d 1).take 16).drop 12))), .string (tx (rsector_m d 1)), .string (tx ((rsector_m d 1).take 12)), J (epoch), .string (tx (eight_m epoch)), .string (tx ([68, 79, 78, 69] ++ (eight_m epoch))), .bool false, .bool false, J ((rread_m (((rsector_m d 1).take 16).drop 12))), .bool false, .bool false, .bool false, .agg #[dv0, dv1, J (d.fuse), .bool (d.down)], J ((rread_m (((rsector_m d 1).take 16).drop 12))), .bool (decide (((0 : Int) ≤ (rread_m (((rsector_m d 1).take 16).drop 12)) ∧ ((rread_m (((rsector_m d 1).take 16).drop 12)) : Int) ≤ (((d.safe).length : Nat) : Int) ∧ (((rread_m (((rsector_m d 1).take 16).drop 12)) : Int) + 60) / 61 + (rread_m (((rsector_m d 1).take 16).drop 12)) + 2 ≤ (((((d.safe).length / 4 : Nat)) : Int))))), .bool (decide (¬ (((0 : Int) ≤ (rread_m (((rsector_m d 1).take 16).drop 12)) ∧ ((rread_m (((rsector_m d 1).take 16).drop 12)) : Int) ≤ (((d.safe).length : Nat) : Int) ∧ (((rread_m (((rsector_m d 1).take 16).drop 12)) : Int) + 60) / 61 + (rread_m (((rsector_m d 1).take 16).drop 12)) + 2 ≤ (((((d.safe).length / 4 : Nat)) : Int)))))), .bool (decide (¬ (((0 : Int) ≤ (rread_m (((rsector_m d 1).take 16).drop 12)) ∧ ((rread_m (((rsector_m d 1).take 16).drop 12)) : Int) ≤ (((d.safe).length : Nat) : Int) ∧ (((rread_m (((rsector_m d 1).take 16).drop 12)) : Int) + 60) / 61 + (rread_m (((rsector_m d 1).take 16).drop 12)) + 2 ≤ (((((d.safe).length / 4 : Nat)) : Int)))))), J ((rread_m (((rsector_m d 1).take 16).drop 12))), J ((rlists_m (rread_m (((rsector_m d 1).take 16).drop 12)))), yu0 0, yu0 1, yu0 2, yu0 3, yu0 4, yu0 5, yu0 6, yu0 7, yu0 8, yu0 9, yu0 10, yu0 11, yu0 12, yu0 13, undef, undef, undef, undef, undef, undef, undef, undef, undef, undef, undef, undef, undef, undef, undef, undef, undef, undef, undef, undef, undef, undef, undef, undef, undef, undef, undef, undef, undef, undef, undef, undef, undef, undef, undef, undef, undef, undef, undef, undef, undef, undef], []⟩ ∧ Mm none S w w' [.see (DkR d dv0 dv1) Fd, .blk g4 #[dv0, dv1, J (d.fuse), .bool (d.down)] 25, .row v46 y45.length (y45.flatMap eS) 9 1]) ?_ ?_
 ·refine wp_block ?_
  refine wp_loop_n (fun n' a' w' => ∃ (n42 : Nat) (l39 : List (List UInt8)) (x41 : Nat) (v40 : Value) (u0 : Nat → Value), n' = n42 ∧ (((rlists_m (rread_m (((rsector_m d 1).take 16).drop 12))) + (rread_m (((rsector_m d 1).take 16).drop 12))) - (x41 : Int)).toNat < n42 ∧ logged_m_l0 d epoch ((((rlists_m (rread_m (((rsector_m d 1).take 16).drop 12))) + (rread_m (((rsector_m d 1).take 16).drop 12))) - ((0 : Nat) : Int)).toNat + 1) (([] : List (List UInt8)), 0) = logged_m_l0 d epoch n42 (l39, x41) ∧ (l39.length = x41 ∧ (x41 : Int) ≤ 600) ∧ (∀ s ∈ l39, s.length = 256) ∧ a' = ⟨#[.agg #[dv0, dv1, J (d.fuse), .bool (d.down)], J (epoch), Pp g4 0, undef, .slice none 0 0, .bool false, J 0, .string (tx (rsector_m d 1)), J ((rread_m (((rsector_m d 1).take 16).drop 12))), J ((rlists_m (rread_m (((rsector_m d 1).take 16).drop 12)))), v40, J (x41 : Int), undef, undef, undef, .agg #[dv0, dv1, J (d.fuse), .bool (d.down)], .string (tx (rsector_m d 1)), .string (tx (rsector_m d 1)), .string (tx (((rsector_m d 1).take 16).drop 12)), J ((rread_m (((rsector_m d 1).take 16).drop 12))), .string (tx (rsector_m d 1)), .string (tx ((rsector_m d 1).take 12)), J (epoch), .string (tx (eight_m epoch)), .string (tx ([68, 79, 78, 69] ++ (eight_m epoch))), .bool false, .bool false, J ((rread_m (((rsector_m d 1).take 16).drop 12))), .bool false, .bool false, .bool false, .agg #[dv0, dv1, J (d.fuse), .bool (d.down)], J ((rread_m (((rsector_m d 1).take 16).drop 12))), .bool (decide (((0 : Int) ≤ (rread_m (((rsector_m d 1).take 16).drop 12)) ∧ ((rread_m (((rsector_m d 1).take 16).drop 12)) : Int) ≤ (((d.safe).length : Nat) : Int) ∧ (((rread_m (((rsector_m d 1).take 16).drop 12)) : Int) + 60) / 61 + (rread_m (((rsector_m d 1).take 16).drop 12)) + 2 ≤ (((((d.safe).length / 4 : Nat)) : Int))))), .bool (decide (¬ (((0 : Int) ≤ (rread_m (((rsector_m d 1).take 16).drop 12)) ∧ ((rread_m (((rsector_m d 1).take 16).drop 12)) : Int) ≤ (((d.safe).length : Nat) : Int) ∧ (((rread_m (((rsector_m d 1).take 16).drop 12)) : Int) + 60) / 61 + (rread_m (((rsector_m d 1).take 16).drop 12)) + 2 ≤ (((((d.safe).length / 4 : Nat)) : Int)))))), .bool (decide (¬ (((0 : Int) ≤ (rread_m (((rsector_m d 1).take 16).drop 12)) ∧ ((rread_m (((rsector_m d 1).take 16).drop 12)) : Int) ≤ (((d.safe).length : Nat) : Int) ∧ (((rread_m (((rsector_m d 1).take 16).drop 12)) : Int) + 60) / 61 + (rread_m (((rsector_m d 1).take 16).drop 12)) + 2 ≤ (((((d.safe).length / 4 : Nat)) : Int)))))), J ((rread_m (((rsector_m d 1).take 16).drop 12))), J ((rlists_m (rread_m (((rsector_m d 1).take 16).drop 12)))), u0 0, u0 1, u0 2, u0 3, u0 4, u0 5, u0 6, u0 7, u0 8, u0 9, u0 10, u0 11, u0 12, u0 13, undef, undef, undef, undef, undef, undef, undef, undef, undef, undef, undef, undef, undef, undef, undef, undef, undef, undef, undef, undef, undef, undef, undef, undef, undef, undef, undef, undef, undef, undef, undef, undef, undef, undef, undef, undef, undef, undef, undef, undef, undef, undef], []⟩ ∧ Mm none S w w' [.see (DkR d dv0 dv1) Fd, .blk g4 #[dv0, dv1, J (d.fuse), .bool (d.down)] 25, .row v40 l39.length (l39.flatMap eS) 9 1]) ⟨((((rlists_m (rread_m (((rsector_m d 1).take 16).drop 12))) + (rread_m (((rsector_m d 1).take 16).drop 12))) - ((0 : Nat) : Int)).toNat + 1), ([] : List (List UInt8)), 0, .slice none 0 0, (fun qq => List.getD [undef, undef, undef, undef, undef, undef, undef, undef, undef, undef, undef, undef, undef, undef] qq undef), rfl, Nat.lt_succ_self _, rfl, (by refine ⟨rfl, by omega⟩), (by simp), rfl, hm38⟩ ?_
  rintro n42 _ w49 ⟨_, l39, x41, v40, u0, rfl, hl53, hi44, hb1, hb2, rfl, hm50⟩ R51 hR51
  obtain ⟨k43, rfl⟩ : ∃ k, n42 = k + 1 := ⟨n42 - 1, by omega⟩
  refine wk (fun K54 hK54 => (wk (fun K55 hK55 => (wq ?_))))
  refine lm 38 (J (x41 : Int)) ?_
  refine lm 39 (J ((rlists_m (rread_m (((rsector_m d 1).take 16).drop 12))))) ?_
  refine lm 40 (J ((rread_m (((rsector_m d 1).take 16).drop 12)))) ?_
  simp only [nz]
  refine lw 41 (J (((rlists_m (rread_m (((rsector_m d 1).take 16).drop 12))) + (rread_m (((rsector_m d 1).take 16).drop 12))))) (z_add (rlists_m (rread_m (((rsector_m d 1).take 16).drop 12))) (rread_m (((rsector_m d 1).take 16).drop 12)) _ (by rw [IntKind.wrap_i64]; omega) rfl rfl rfl) ?_
  refine lw 42 (.bool (decide ((x41 : Int) < ((rlists_m (rread_m (((rsector_m d 1).take 16).drop 12))) + (rread_m (((rsector_m d 1).take 16).drop 12)))))) (z_lss (x41 : Int) ((rlists_m (rread_m (((rsector_m d 1).take 16).drop 12))) + (rread_m (((rsector_m d 1).take 16).drop 12))) rfl rfl rfl) ?_
  simp only [nz]
  refine wn (tj (hK55 _ _ ?_))
  refine cond_d ((x41 : Int) < ((rlists_m (rread_m (((rsector_m d 1).take 16).drop 12))) + (rread_m (((rsector_m d 1).take 16).drop 12)))) rfl (fun hc56 => ?_) (fun hc56 => ?_)
  rotate_left
  ·refine wp_exit (then_x (then_x (blk_x ?_)))
   refine tj ?_
   exact ⟨l39, x41, v40, (fun qq => List.getD [J (x41 : Int), J ((rlists_m (rread_m (((rsector_m d 1).take 16).drop 12)))), J ((rread_m (((rsector_m d 1).take 16).drop 12))), J (((rlists_m (rread_m (((rsector_m d 1).take 16).drop 12))) + (rread_m (((rsector_m d 1).take 16).drop 12)))), .bool (decide ((x41 : Int) < ((rlists_m (rread_m (((rsector_m d 1).take 16).drop 12))) + (rread_m (((rsector_m d 1).take 16).drop 12))))), u0 5, u0 6, u0 7, u0 8, u0 9, u0 10, u0 11, u0 12, u0 13] qq undef), (hi44.trans (show logged_m_b0 d epoch (logged_m_l0 d epoch k43) l39 x41 = .inl (l39, x41) from by unfold logged_m_b0; rw [if_neg hc56] <;> rfl)), ⟨hb1.1, hb1.2, by omega⟩, hb2, rfl, hm50⟩
  refine wp_skip (tj (hK54 _ _ (wk (fun K57 hK57 => ?_))))
  refine wp_block ?_
  refine wq ?_
  refine lm 45 (v40) ?_
  refine lw 46 (.agg #[dv0, dv1, J (d.fuse), .bool (d.down)]) (r_whole (hm50.at 1 rfl) Tryd.underlying25 rfl (by exact sz_25) rfl rfl) ?_
  refine lm 47 (J (x41 : Int)) ?_
  simp only [nz]
  refine lw 48 (J (((2 + x41) : Nat) : Int)) (r_add 2 x41 (show (2 + x41) < 9223372036854775808 from by omega) rfl rfl rfl) ?_
  simp only [nz]
  refine lst rfl (m_call hm50 49 (.string (tx (rsector_m d (((2 + x41) : Nat) : Int)))) rfl (run_rsector rfl rfl rfl) (rsector_any d (((2 + x41) : Nat) : Int) dv0 dv1 _ (hm50.see 0 rfl) (by omega) (by omega)) (fun w58 hm59 => ?_))
  have hf60 : (rsector_m d (((2 + x41) : Nat) : Int)).length = 256 := rsec_len (d := d) (at_ := (((2 + x41) : Nat) : Int)) (by assumption) (by assumption) (by omega) (by have h8 := reight_b (d := d) (by assumption); omega)
  simp only [nz]
  refine lst rfl (m_make (c := #[.string (tx (rsector_m d (((2 + x41) : Nat) : Int)))]) (T := 9) (fun g => Sl g 0 1 1) hm59 50 rfl (by unfold execOp; go_simp; try rfl) (fun g63 w61 hm62 => ?_))
  simp only [nz]
  obtain ⟨iq, hiq, hz1, hz2, hz3⟩ := inf_9
  refine lst rfl (m_appendR 2 (l := l39) (l2 := [(rsector_m d (((2 + x41) : Nat) : Int))]) iq _ _ _ (Sl g63 0 1 1) hm62 rfl 51 rfl rfl Tryd.underlying22 hiq hz1 hz2 hz3 eS_len eS_one rfl (by decide) rfl rfl (Rs.blk (l := [(rsector_m d (((2 + x41) : Nat) : Int))]) (hm62.at 3 rfl) rfl rfl eS_len (Nat.le_refl _)) (by simp; omega) (by simp; omega) (fun v66 w64 hm65 => ?_))
  simp only [nz]
  refine la 10 (v66) ?_
  simp only [nz]
  refine wn (blk_n (tj (hK57 _ _ (wq ?_))))
  refine lm 43 (J (x41 : Int)) ?_
  refine lw 44 (J (((x41 + 1) : Nat) : Int)) (r_add x41 1 (show (x41 + 1) < 9223372036854775808 from by omega) rfl rfl rfl) ?_
  refine la 11 (J (((x41 + 1) : Nat) : Int)) ?_
  simp only [nz]
  refine wn ?_
  refine tj (hR51 _ _ _ ⟨k43, (l39 ++ [(rsector_m d (((2 + x41) : Nat) : Int))]), (x41 + 1), v66, (fun qq => List.getD [J (x41 : Int), J ((rlists_m (rread_m (((rsector_m d 1).take 16).drop 12)))), J ((rread_m (((rsector_m d 1).take 16).drop 12))), J (((rlists_m (rread_m (((rsector_m d 1).take 16).drop 12))) + (rread_m (((rsector_m d 1).take 16).drop 12)))), .bool (decide ((x41 : Int) < ((rlists_m (rread_m (((rsector_m d 1).take 16).drop 12))) + (rread_m (((rsector_m d 1).take 16).drop 12))))), J (x41 : Int), J (((x41 + 1) : Nat) : Int), v40, .agg #[dv0, dv1, J (d.fuse), .bool (d.down)], J (x41 : Int), J (((2 + x41) : Nat) : Int), .string (tx (rsector_m d (((2 + x41) : Nat) : Int))), Sl g63 0 1 1, v66] qq undef), rfl, (by omega), (hi44.trans (show logged_m_b0 d epoch (logged_m_l0 d epoch k43) l39 x41 = logged_m_l0 d epoch k43 ((l39 ++ [(rsector_m d (((2 + x41) : Nat) : Int))]), (x41 + 1)) from by unfold logged_m_b0; rw [if_pos hc56] <;> rfl)), (by rw [List.length_append, List.length_singleton]; have h8 := reight_b (d := d) (by assumption); omega), (by intro s hs; rcases List.mem_append.1 hs with hs | hs; exact hb2 s hs; rw [List.mem_singleton.1 hs]; assumption), rfl, (Mm.reorder hm65 [0, 1, 2] (by decide) rfl)⟩ ?_)
  omega
 rintro _ w67 ⟨y45, y47, v46, yu0, hx48, hb1, hb2, rfl, hm68⟩
 have hq69 : logged_m d epoch = logged_m_k0 d epoch y45 y47 := (show logged_m d epoch = logged_m_k0 d epoch y45 y47 from by unfold logged_m; rw [if_neg hs19, if_neg hs22, if_neg hc27, hx48] <;> rfl)
 refine tj (hK35 _ _ (wk (fun K70 hK70 => (wq ?_))))
 refine la 12 (.slice none 0 0) ?_
 simp only [nz]
 refine wn (tj (hK70 _ _ (wk (fun K71 hK71 => (wk (fun K72 hK72 => (wq ?_)))))))
 refine la 13 (J 0) ?_
 simp only [nz]
 refine wn (tj (hK72 _ _ ?_))
 have hm74 : Mm none S w w67 [.see (DkR d dv0 dv1) Fd, .blk g4 #[dv0, dv1, J (d.fuse), .bool (d.down)] 25, .row v46 y45.length (y45.flatMap eS) 9 1, .row (.slice none 0 0) ([] : List Wr).length (([] : List Wr).flatMap eWr) 51 2] := hm68.nilrow 51 2
 refine wp_cutK (fun a' w' => ∃ (y81 : List Wr) (y83 : Nat) (v82 : Value) (yu1 : Nat → Value), logged_m_l1 d epoch y45 y47 (((rread_m (((rsector_m d 1).take 16).drop 12)) - ((0 : Nat) : Int)).toNat + 1) (([] : List Wr), 0) = .inl (y81, y83) ∧ (y81.length = y83 ∧ (y83 : Int) ≤ 600) ∧ a' = ⟨#[.agg #[dv0, dv1, J (d.fuse), .bool (d.down)], J (epoch), Pp g4 0, undef, .slice none 0 0, .bool false, J 0, .string (tx (rsector_m d 1)), J ((rread_m (((rsector_m d 1).take 16).drop 12))), J ((rlists_m (rread_m (((rsector_m d 1).take 16).drop 12)))), v46, J (y47 : Int), v82, J (y83 : Int), yu1 0, .agg #[dv0, dv1, J (d.fuse), .bool (d.down)], .string (tx (rsector_m d 1)), .string (tx (rsector_m d 1)), .string (tx (((rsector_m d 1).take 16).drop 12)), J ((rread_m (((rsector_m d 1).take 16).drop 12))), .string (tx (rsector_m d 1)), .string (tx ((rsector_m d 1).take 12)), J (epoch), .string (tx (eight_m epoch)), .string (tx ([68, 79, 78, 69] ++ (eight_m epoch))), .bool false, .bool false, J ((rread_m (((rsector_m d 1).take 16).drop 12))), .bool false, .bool false, .bool false, .agg #[dv0, dv1, J (d.fuse), .bool (d.down)], J ((rread_m (((rsector_m d 1).take 16).drop 12))), .bool (decide (((0 : Int) ≤ (rread_m (((rsector_m d 1).take 16).drop 12)) ∧ ((rread_m (((rsector_m d 1).take 16).drop 12)) : Int) ≤ (((d.safe).length : Nat) : Int) ∧ (((rread_m (((rsector_m d 1).take 16).drop 12)) : Int) + 60) / 61 + (rread_m (((rsector_m d 1).take 16).drop 12)) + 2 ≤ (((((d.safe).length / 4 : Nat)) : Int))))), .bool (decide (¬ (((0 : Int) ≤ (rread_m (((rsector_m d 1).take 16).drop 12)) ∧ ((rread_m (((rsector_m d 1).take 16).drop 12)) : Int) ≤ (((d.safe).length : Nat) : Int) ∧ (((rread_m (((rsector_m d 1).take 16).drop 12)) : Int) + 60) / 61 + (rread_m (((rsector_m d 1).take 16).drop 12)) + 2 ≤ (((((d.safe).length / 4 : Nat)) : Int)))))), .bool (decide (¬ (((0 : Int) ≤ (rread_m (((rsector_m d 1).take 16).drop 12)) ∧ ((rread_m (((rsector_m d 1).take 16).drop 12)) : Int) ≤ (((d.safe).length : Nat) : Int) ∧ (((rread_m (((rsector_m d 1).take 16).drop 12)) : Int) + 60) / 61 + (rread_m (((rsector_m d 1).take 16).drop 12)) + 2 ≤ (((((d.safe).length / 4 : Nat)) : Int)))))), J ((rread_m (((rsector_m d 1).take 16).drop 12))), J ((rlists_m (rread_m (((rsector_m d 1).take 16).drop 12)))), yu0 0, yu0 1, yu0 2, yu0 3, yu0 4, yu0 5, yu0 6, yu0 7, yu0 8, yu0 9, yu0 10, yu0 11, yu0 12, yu0 13, yu1 1, yu1 2, yu1 3, yu1 4, yu1 5, yu1 6, yu1 7, yu1 8, yu1 9, yu1 10, yu1 11, yu1 12, yu1 13, yu1 14, yu1 15, yu1 16, yu1 17, yu1 18, yu1 19, yu1 20, yu1 21, yu1 22, yu1 23, yu1 24, yu1 25, yu1 26, yu1 27, yu1 28, yu1 29, undef, undef, undef, undef, undef, undef, undef, undef, undef, undef, undef, undef, undef], []⟩ ∧ Mm none S w w' [.see (DkR d dv0 dv1) Fd, .blk g4 #[dv0, dv1, J (d.fuse), .bool (d.down)] 25, .row v46 y45.length (y45.flatMap eS) 9 1, .row v82 y81.length (y81.flatMap eWr) 51 2]) ?_ ?_
 ·refine wp_block ?_
  refine wp_loop_n (fun n' a' w' => ∃ (n78 : Nat) (l75 : List Wr) (x77 : Nat) (v76 : Value) (u1 : Nat → Value), n' = n78 ∧ ((rread_m (((rsector_m d 1).take 16).drop 12)) - (x77 : Int)).toNat < n78 ∧ logged_m_l1 d epoch y45 y47 (((rread_m (((rsector_m d 1).take 16).drop 12)) - ((0 : Nat) : Int)).toNat + 1) (([] : List Wr), 0) = logged_m_l1 d epoch y45 y47 n78 (l75, x77) ∧ (l75.length = x77 ∧ (x77 : Int) ≤ 600) ∧ a' = ⟨#[.agg #[dv0, dv1, J (d.fuse), .bool (d.down)], J (epoch), Pp g4 0, undef, .slice none 0 0, .bool false, J 0, .string (tx (rsector_m d 1)), J ((rread_m (((rsector_m d 1).take 16).drop 12))), J ((rlists_m (rread_m (((rsector_m d 1).take 16).drop 12)))), v46, J (y47 : Int), v76, J (x77 : Int), u1 0, .agg #[dv0, dv1, J (d.fuse), .bool (d.down)], .string (tx (rsector_m d 1)), .string (tx (rsector_m d 1)), .string (tx (((rsector_m d 1).take 16).drop 12)), J ((rread_m (((rsector_m d 1).take 16).drop 12))), .string (tx (rsector_m d 1)), .string (tx ((rsector_m d 1).take 12)), J (epoch), .string (tx (eight_m epoch)), .string (tx ([68, 79, 78, 69] ++ (eight_m epoch))), .bool false, .bool false, J ((rread_m (((rsector_m d 1).take 16).drop 12))), .bool false, .bool false, .bool false, .agg #[dv0, dv1, J (d.fuse), .bool (d.down)], J ((rread_m (((rsector_m d 1).take 16).drop 12))), .bool (decide (((0 : Int) ≤ (rread_m (((rsector_m d 1).take 16).drop 12)) ∧ ((rread_m (((rsector_m d 1).take 16).drop 12)) : Int) ≤ (((d.safe).length : Nat) : Int) ∧ (((rread_m (((rsector_m d 1).take 16).drop 12)) : Int) + 60) / 61 + (rread_m (((rsector_m d 1).take 16).drop 12)) + 2 ≤ (((((d.safe).length / 4 : Nat)) : Int))))), .bool (decide (¬ (((0 : Int) ≤ (rread_m (((rsector_m d 1).take 16).drop 12)) ∧ ((rread_m (((rsector_m d 1).take 16).drop 12)) : Int) ≤ (((d.safe).length : Nat) : Int) ∧ (((rread_m (((rsector_m d 1).take 16).drop 12)) : Int) + 60) / 61 + (rread_m (((rsector_m d 1).take 16).drop 12)) + 2 ≤ (((((d.safe).length / 4 : Nat)) : Int)))))), .bool (decide (¬ (((0 : Int) ≤ (rread_m (((rsector_m d 1).take 16).drop 12)) ∧ ((rread_m (((rsector_m d 1).take 16).drop 12)) : Int) ≤ (((d.safe).length : Nat) : Int) ∧ (((rread_m (((rsector_m d 1).take 16).drop 12)) : Int) + 60) / 61 + (rread_m (((rsector_m d 1).take 16).drop 12)) + 2 ≤ (((((d.safe).length / 4 : Nat)) : Int)))))), J ((rread_m (((rsector_m d 1).take 16).drop 12))), J ((rlists_m (rread_m (((rsector_m d 1).take 16).drop 12)))), yu0 0, yu0 1, yu0 2, yu0 3, yu0 4, yu0 5, yu0 6, yu0 7, yu0 8, yu0 9, yu0 10, yu0 11, yu0 12, yu0 13, u1 1, u1 2, u1 3, u1 4, u1 5, u1 6, u1 7, u1 8, u1 9, u1 10, u1 11, u1 12, u1 13, u1 14, u1 15, u1 16, u1 17, u1 18, u1 19, u1 20, u1 21, u1 22, u1 23, u1 24, u1 25, u1 26, u1 27, u1 28, u1 29, undef, undef, undef, undef, undef, undef, undef, undef, undef, undef, undef, undef, undef], []⟩ ∧ Mm none S w w' [.see (DkR d dv0 dv1) Fd, .blk g4 #[dv0, dv1, J (d.fuse), .bool (d.down)] 25, .row v46 y45.length (y45.flatMap eS) 9 1, .row v76 l75.length (l75.flatMap eWr) 51 2]) ⟨(((rread_m (((rsector_m d 1).take 16).drop 12)) - ((0 : Nat) : Int)).toNat + 1), ([] : List Wr), 0, .slice none 0 0, (fun qq => bif Nat.blt qq 24 then List.getD [undef, undef, undef, undef, undef, undef, undef, undef, undef, undef, undef, undef, undef, undef, undef, undef, undef, undef, undef, undef, undef, undef, undef, undef] qq undef else List.getD [undef, undef, undef, undef, undef, undef] (qq - 24) undef), rfl, Nat.lt_succ_self _, rfl, (by refine ⟨rfl, by omega⟩), rfl, hm74⟩ ?_
  rintro n78 _ w85 ⟨_, l75, x77, v76, u1, rfl, hl89, hi80, hl1, rfl, hm86⟩ R87 hR87
  obtain ⟨k79, rfl⟩ : ∃ k, n78 = k + 1 := ⟨n78 - 1, by omega⟩
  refine wk (fun K90 hK90 => (wk (fun K91 hK91 => (wq ?_))))
  refine lm 52 (J (x77 : Int)) ?_
  refine lm 53 (J ((rread_m (((rsector_m d 1).take 16).drop 12)))) ?_
  refine lw 54 (.bool (decide ((x77 : Int) < (rread_m (((rsector_m d 1).take 16).drop 12))))) (z_lss (x77 : Int) (rread_m (((rsector_m d 1).take 16).drop 12)) rfl rfl rfl) ?_
  simp only [nz]
  refine wn (tj (hK91 _ _ ?_))
  refine cond_d ((x77 : Int) < (rread_m (((rsector_m d 1).take 16).drop 12))) rfl (fun hc92 => ?_) (fun hc92 => ?_)
  rotate_left
  ·refine wp_exit (then_x (then_x (blk_x ?_)))
   refine tj ?_
   exact ⟨l75, x77, v76, (fun qq => bif Nat.blt qq 24 then List.getD [u1 0, J (x77 : Int), J ((rread_m (((rsector_m d 1).take 16).drop 12))), .bool (decide ((x77 : Int) < (rread_m (((rsector_m d 1).take 16).drop 12)))), u1 4, u1 5, u1 6, u1 7, u1 8, u1 9, u1 10, u1 11, u1 12, u1 13, u1 14, u1 15, u1 16, u1 17, u1 18, u1 19, u1 20, u1 21, u1 22, u1 23] qq undef else List.getD [u1 24, u1 25, u1 26, u1 27, u1 28, u1 29] (qq - 24) undef), (hi80.trans (show logged_m_b1 d epoch y45 y47 (logged_m_l1 d epoch y45 y47 k79) l75 x77 = .inl (l75, x77) from by unfold logged_m_b1; rw [if_neg hc92] <;> rfl)), hl1, rfl, hm86⟩
  refine wp_skip (tj (hK90 _ _ (wk (fun K93 hK93 => ?_))))
  refine wp_block ?_
  refine wk (fun K94 hK94 => (wq ?_))
  refine lm 57 (J (x77 : Int)) ?_
  refine lw 58 (J (((x77 % 61) : Nat) : Int)) (r_rem x77 61 (show x77 < 9223372036854775808 from by omega) (by decide) rfl rfl rfl) ?_
  refine lw 59 (J (((4 * (x77 % 61)) : Nat) : Int)) (r_mul 4 (x77 % 61) (show (4 * (x77 % 61)) < 9223372036854775808 from by omega) rfl rfl rfl) ?_
  simp only [nz]
  refine lw 60 (J (((12 + (4 * (x77 % 61))) : Nat) : Int)) (r_add 12 (4 * (x77 % 61)) (show (12 + (4 * (x77 % 61))) < 9223372036854775808 from by omega) rfl rfl rfl) ?_
  refine la 14 (J (((12 + (4 * (x77 % 61))) : Nat) : Int)) ?_
  simp only [nz]
  refine wn (tj (hK94 _ _ ?_))
  have hm95 := hm86.drew
  refine wp_region_held_drew (S := fun w' => Rs eS 1 y45 v46 w') (by kernel_rfl) ((Rs.row (hm95.row 2 rfl))) (fun _ => ?_)
  generalize w85.drew = w96 at *
  refine tk 0 61 (v76) rfl rfl (fun _ hw => run_mv rfl rfl) (Rs.row (hm95.row 2 rfl)) ?_
  simp only [nz]
  refine tk 1 62 (v46) rfl rfl (fun _ hw => run_mv rfl rfl) (Rs.row (hm95.row 2 rfl)) ?_
  simp only [nz]
  refine tk 2 63 (J (x77 : Int)) rfl rfl (fun _ hw => run_mv rfl rfl) (Rs.row (hm95.row 2 rfl)) ?_
  simp only [nz]
  refine tk 3 64 (J (((x77 / 61) : Nat) : Int)) rfl rfl (fun _ hw => r_quo x77 61 (show x77 < 9223372036854775808 from by omega) (by decide) rfl rfl rfl) (Rs.row (hm95.row 2 rfl)) ?_
  simp only [nz]
  refine tk 4 65 (.pointer (some ⟨(bk v46), (po v46 + (x77 / 61) * 1), none⟩)) rfl rfl (fun _ hw => r_ixv (Rs.row (hm95.row 2 rfl)) (x77 / 61) (by omega) Tryd.underlying22 sz_9 rfl rfl rfl) (Rs.row (hm95.row 2 rfl)) ?_
  simp only [nz]
  refine tk 5 66 (.string (tx (y45.getD (x77 / 61) []))) rfl rfl (fun _ hw => r_cellw (Rs.cell hw eS_len [] (x77 / 61) (by omega) 0 _ rfl) Tryd.underlying9 rfl rfl rfl) (Rs.row (hm95.row 2 rfl)) ?_
  simp only [nz]
  refine tk 6 67 (J (((12 + (4 * (x77 % 61))) : Nat) : Int)) rfl rfl (fun _ hw => run_mv rfl rfl) (Rs.row (hm95.row 2 rfl)) ?_
  simp only [nz]
  refine tk 7 68 (J (((12 + (4 * (x77 % 61))) : Nat) : Int)) rfl rfl (fun _ hw => run_mv rfl rfl) (Rs.row (hm95.row 2 rfl)) ?_
  simp only [nz]
  refine tk 8 69 (J ((((12 + (4 * (x77 % 61))) + 4) : Nat) : Int)) rfl rfl (fun _ hw => r_add (12 + (4 * (x77 % 61))) 4 (show ((12 + (4 * (x77 % 61))) + 4) < 9223372036854775808 from by omega) rfl rfl rfl) (Rs.row (hm95.row 2 rfl)) ?_
  simp only [nz]
  refine tk 9 70 (.string (tx (((y45.getD (x77 / 61) []).take ((12 + (4 * (x77 % 61))) + 4)).drop (12 + (4 * (x77 % 61)))))) rfl rfl (fun _ hw => t_cut (y45.getD (x77 / 61) []) (12 + (4 * (x77 % 61))) ((12 + (4 * (x77 % 61))) + 4) (by have hz := at_of (by assumption) (x77 / 61) (by omega); omega) (by have hz := at_of (by assumption) (x77 / 61) (by omega); omega) Tryd.underlying9 rfl rfl rfl rfl) (Rs.row (hm95.row 2 rfl)) ?_
  simp only [nz]
  refine tk 11 72 (v46) rfl rfl (fun _ hw => run_mv rfl rfl) (Rs.row (hm95.row 2 rfl)) ?_
  simp only [nz]
  refine tk 12 73 (J ((rlists_m (rread_m (((rsector_m d 1).take 16).drop 12))))) rfl rfl (fun _ hw => run_mv rfl rfl) (Rs.row (hm95.row 2 rfl)) ?_
  simp only [nz]
  refine tk 13 74 (J (x77 : Int)) rfl rfl (fun _ hw => run_mv rfl rfl) (Rs.row (hm95.row 2 rfl)) ?_
  simp only [nz]
  refine tk 14 75 (J (((rlists_m (rread_m (((rsector_m d 1).take 16).drop 12))) + (x77 : Int)))) rfl rfl (fun _ hw => z_add (rlists_m (rread_m (((rsector_m d 1).take 16).drop 12))) (x77 : Int) _ (by rw [IntKind.wrap_i64]; omega) rfl rfl rfl) (Rs.row (hm95.row 2 rfl)) ?_
  simp only [nz]
  refine tk 15 76 (.pointer (some ⟨(bk v46), (po v46 + ((rlists_m (rread_m (((rsector_m d 1).take 16).drop 12))) + (x77 : Int)).toNat * 1), none⟩)) rfl rfl (fun _ hw => r_ixvZ (Rs.row (hm95.row 2 rfl)) ((rlists_m (rread_m (((rsector_m d 1).take 16).drop 12))) + (x77 : Int)) (by omega) (by omega) Tryd.underlying22 sz_9 rfl rfl rfl) (Rs.row (hm95.row 2 rfl)) ?_
  simp only [nz]
  refine tk 16 77 (.string (tx (y45.getD (((rlists_m (rread_m (((rsector_m d 1).take 16).drop 12))) + (x77 : Int)).toNat) []))) rfl rfl (fun _ hw => r_cellw (Rs.cell hw eS_len [] (((rlists_m (rread_m (((rsector_m d 1).take 16).drop 12))) + (x77 : Int)).toNat) (by omega) 0 _ rfl) Tryd.underlying9 rfl rfl rfl) (Rs.row (hm95.row 2 rfl)) ?_
  simp only [nz]
  refine one_ready 10 (by kernel_rfl) ?_
  refine opd rfl (wanted_none rfl) (m_call hm95 71 (J ((rread_m (((y45.getD (x77 / 61) []).take ((12 + (4 * (x77 % 61))) + 4)).drop (12 + (4 * (x77 % 61))))))) rfl (run_rread rfl rfl) (rread_any (((y45.getD (x77 / 61) []).take ((12 + (4 * (x77 % 61))) + 4)).drop (12 + (4 * (x77 % 61))))  _  (by rw [List.length_drop, List.length_take]; omega)) (fun w97 hm98 => ?_))
  refine ⟨(Rs.row (hm98.row 2 rfl)), ?_⟩
  simp only [nz]
  refine tk 17 78 (.agg #[J ((rread_m (((y45.getD (x77 / 61) []).take ((12 + (4 * (x77 % 61))) + 4)).drop (12 + (4 * (x77 % 61)))))), .string (tx (y45.getD (((rlists_m (rread_m (((rsector_m d 1).take 16).drop 12))) + (x77 : Int)).toNat) []))]) rfl rfl (fun _ hw => by unfold execOp; go_simp; try (first | rfl | (repeat' (first | rfl | apply And.intro)))) (Rs.row (hm98.row 2 rfl)) ?_
  simp only [nz]
  refine one_ready 18 (by kernel_rfl) ?_
  refine opd rfl (wanted_none rfl) (m_make (c := #[J ((rread_m (((y45.getD (x77 / 61) []).take ((12 + (4 * (x77 % 61))) + 4)).drop (12 + (4 * (x77 % 61)))))), .string (tx (y45.getD (((rlists_m (rread_m (((rsector_m d 1).take 16).drop 12))) + (x77 : Int)).toNat) []))]) (T := 51) (fun g => Sl g 0 1 1) hm98 79 rfl (by unfold execOp; go_simp; try rfl) (fun g101 w99 hm100 => ?_))
  refine ⟨(Rs.row (hm100.row 2 rfl)), ?_⟩
  simp only [nz]
  refine one_ready 19 (by kernel_rfl) ?_
  obtain ⟨iq, hiq, hz1, hz2, hz3⟩ := inf_51
  refine opd rfl (wanted_none rfl) (m_appendR 3 (l := l75) (l2 := [(Wr.mk (rread_m (((y45.getD (x77 / 61) []).take ((12 + (4 * (x77 % 61))) + 4)).drop (12 + (4 * (x77 % 61))))) (y45.getD (((rlists_m (rread_m (((rsector_m d 1).take 16).drop 12))) + (x77 : Int)).toNat) []))]) iq _ _ _ (Sl g101 0 1 1) hm100 rfl 80 rfl rfl Tryd.underlying23 hiq hz1 hz2 hz3 eWr_len eWr_one rfl (by decide) rfl rfl (Rs.blk (l := [(Wr.mk (rread_m (((y45.getD (x77 / 61) []).take ((12 + (4 * (x77 % 61))) + 4)).drop (12 + (4 * (x77 % 61))))) (y45.getD (((rlists_m (rread_m (((rsector_m d 1).take 16).drop 12))) + (x77 : Int)).toNat) []))]) (hm100.at 4 rfl) rfl rfl eWr_len (Nat.le_refl _)) (by simp; omega) (by simp; omega) (fun v104 w102 hm103 => ?_))
  refine ⟨(Rs.row (hm103.row 2 rfl)), ?_⟩
  simp only [nz]
  refine one_ready 20 (by kernel_rfl) ?_
  refine opd rfl (wanted_none rfl) (w_value 12 (v104) rfl (run_as rfl rfl) ⟨(Rs.row (hm103.row 2 rfl)), ?_⟩)
  simp only [nz]
  refine wpAnyH_done (by kernel_rfl) ?_ _
  refine blk_n (tj (hK93 _ _ (wq ?_)))
  refine lm 55 (J (x77 : Int)) ?_
  refine lw 56 (J (((x77 + 1) : Nat) : Int)) (r_add x77 1 (show (x77 + 1) < 9223372036854775808 from by omega) rfl rfl rfl) ?_
  refine la 13 (J (((x77 + 1) : Nat) : Int)) ?_
  simp only [nz]
  refine wn ?_
  refine tj (hR87 _ _ _ ⟨k79, (l75 ++ [(Wr.mk (rread_m (((y45.getD (x77 / 61) []).take ((12 + (4 * (x77 % 61))) + 4)).drop (12 + (4 * (x77 % 61))))) (y45.getD (((rlists_m (rread_m (((rsector_m d 1).take 16).drop 12))) + (x77 : Int)).toNat) []))]), (x77 + 1), v104, (fun qq => bif Nat.blt qq 24 then List.getD [J (((12 + (4 * (x77 % 61))) : Nat) : Int), J (x77 : Int), J ((rread_m (((rsector_m d 1).take 16).drop 12))), .bool (decide ((x77 : Int) < (rread_m (((rsector_m d 1).take 16).drop 12)))), J (x77 : Int), J (((x77 + 1) : Nat) : Int), J (x77 : Int), J (((x77 % 61) : Nat) : Int), J (((4 * (x77 % 61)) : Nat) : Int), J (((12 + (4 * (x77 % 61))) : Nat) : Int), v76, v46, J (x77 : Int), J (((x77 / 61) : Nat) : Int), .pointer (some ⟨(bk v46), (po v46 + (x77 / 61) * 1), none⟩), .string (tx (y45.getD (x77 / 61) [])), J (((12 + (4 * (x77 % 61))) : Nat) : Int), J (((12 + (4 * (x77 % 61))) : Nat) : Int), J ((((12 + (4 * (x77 % 61))) + 4) : Nat) : Int), .string (tx (((y45.getD (x77 / 61) []).take ((12 + (4 * (x77 % 61))) + 4)).drop (12 + (4 * (x77 % 61))))), J ((rread_m (((y45.getD (x77 / 61) []).take ((12 + (4 * (x77 % 61))) + 4)).drop (12 + (4 * (x77 % 61)))))), v46, J ((rlists_m (rread_m (((rsector_m d 1).take 16).drop 12)))), J (x77 : Int)] qq undef else List.getD [J (((rlists_m (rread_m (((rsector_m d 1).take 16).drop 12))) + (x77 : Int))), .pointer (some ⟨(bk v46), (po v46 + ((rlists_m (rread_m (((rsector_m d 1).take 16).drop 12))) + (x77 : Int)).toNat * 1), none⟩), .string (tx (y45.getD (((rlists_m (rread_m (((rsector_m d 1).take 16).drop 12))) + (x77 : Int)).toNat) [])), .agg #[J ((rread_m (((y45.getD (x77 / 61) []).take ((12 + (4 * (x77 % 61))) + 4)).drop (12 + (4 * (x77 % 61)))))), .string (tx (y45.getD (((rlists_m (rread_m (((rsector_m d 1).take 16).drop 12))) + (x77 : Int)).toNat) []))], Sl g101 0 1 1, v104] (qq - 24) undef), rfl, (by omega), (hi80.trans (show logged_m_b1 d epoch y45 y47 (logged_m_l1 d epoch y45 y47 k79) l75 x77 = logged_m_l1 d epoch y45 y47 k79 ((l75 ++ [(Wr.mk (rread_m (((y45.getD (x77 / 61) []).take ((12 + (4 * (x77 % 61))) + 4)).drop (12 + (4 * (x77 % 61))))) (y45.getD (((rlists_m (rread_m (((rsector_m d 1).take 16).drop 12))) + (x77 : Int)).toNat) []))]), (x77 + 1)) from by unfold logged_m_b1; rw [if_pos hc92] <;> rfl)), (by rw [List.length_append, List.length_singleton]; have h8 := reight_b (d := d) (by assumption); omega), rfl, (Mm.reorder hm103 [0, 1, 2, 3] (by decide) rfl)⟩ ?_)
  omega
 rintro _ w105 ⟨y81, y83, v82, yu1, hx84, hl1, rfl, hm106⟩
 have hq107 : logged_m d epoch = logged_m_k1 d epoch y45 y47 y81 y83 := (hq69.trans (show logged_m_k0 d epoch y45 y47 = logged_m_k1 d epoch y45 y47 y81 y83 from by unfold logged_m_k0; rw [hx84] <;> rfl))
 refine tj (hK71 _ _ (wk (fun K108 hK108 => (wk (fun K109 hK109 => (wq ?_))))))
 refine lm 81 (.string (tx (rsector_m d 1))) ?_
 refine lm 82 (J (epoch)) ?_
 refine lm 83 (J ((rread_m (((rsector_m d 1).take 16).drop 12)))) ?_
 simp only [nz]
 refine lm 84 (v46) ?_
 simp only [nz]
 refine lst rfl (m_call hm106 85 (.string (tx (done_m epoch (rread_m (((rsector_m d 1).take 16).drop 12)) y45))) rfl (run_done rfl rfl rfl rfl) (done_any epoch (rread_m (((rsector_m d 1).take 16).drop 12)) y45 v46 _ (Rs.row (hm106.row 2 rfl)) (Laid2.below hT hm106.below) (by omega) (by omega)) (fun w110 hm111 => ?_))
 have hf112 : (done_m epoch (rread_m (((rsector_m d 1).take 16).drop 12)) y45).length = 256 := done_len epoch (rread_m (((rsector_m d 1).take 16).drop 12)) y45
 simp only [nz]
 refine lvb 86 (¬ (rsector_m d 1) = (done_m epoch (rread_m (((rsector_m d 1).take 16).drop 12)) y45)) rfl rfl (t_neq (rsector_m d 1) (done_m epoch (rread_m (((rsector_m d 1).take 16).drop 12)) y45) rfl rfl rfl) (fun hs113 => ?_) (fun hs113 => ?_)
 ·simp only [nz]
  refine lm 87 (.bool true) ?_
  simp only [nz]
  refine lst_skip 88 rfl rfl ?_
  simp only [nz]
  refine lst_skip 89 rfl rfl ?_
  simp only [nz]
  refine lst_skip 90 rfl rfl ?_
  simp only [nz]
  refine lst_skip 91 rfl rfl ?_
  simp only [nz]
  refine lw 92 (.bool true) (run_pick rfl rfl rfl) ?_
  simp only [nz]
  refine wn (tj (hK109 _ _ ?_))
  refine cond_t rfl ?_
  refine wk (fun K114 hK114 => (wq ?_))
  refine la 4 (.slice none 0 0) ?_
  refine la 5 (.bool false) ?_
  refine la 6 (J 20) ?_
  simp only [nz]
  refine wn (tj (hK114 _ _ (wp_ret (then_r ?_))))
  have he115 : logged_m d epoch = (([] : List Wr), false, 20) := (hq107.trans (show logged_m_k1 d epoch y45 y47 y81 y83 = (([] : List Wr), false, 20) from by unfold logged_m_k1; rw [if_pos hs113] <;> rfl))
  exact ⟨rfl, .tuple #[.slice none 0 0, .bool false, J 20], res_ttt rfl rfl rfl rfl, ⟨⟨_, rfl, (.slice none 0 0), (by rw [he115]), by rw [he115]; exact hm111.give (From.pure (fun W => Rs.nil eWr 2 W))⟩, hm111.below⟩⟩
 simp only [nz]
 refine lm 87 (.bool false) ?_
 refine lw 88 (.agg #[dv0, dv1, J (d.fuse), .bool (d.down)]) (r_whole (hm111.at 1 rfl) Tryd.underlying25 rfl (by exact sz_25) rfl rfl) ?_
 refine lm 89 (v82) ?_
 simp only [nz]
 refine lst rfl (m_call hm111 90 (.bool ((good_m d y81))) rfl (run_good rfl rfl rfl) (good_any d y81 dv0 dv1 v82 _ (hm111.see 0 rfl) (Rs.row (hm111.row 3 rfl)) (by omega) (by omega) (by omega)) (fun w116 hm117 => ?_))
 simp only [nz]
 refine lw 91 (.bool (!(good_m d y81))) (r_not (good_m d y81) rfl rfl) ?_
 refine lw 92 (.bool (!(good_m d y81))) (run_pickf rfl rfl rfl) ?_
 simp only [nz]
 refine wn (tj (hK109 _ _ ?_))
 refine cond_B (!(good_m d y81)) rfl (fun hc118 => ?_) (fun hc118 => ?_)
 ·refine wk (fun K119 hK119 => (wq ?_))
  refine la 4 (.slice none 0 0) ?_
  refine la 5 (.bool false) ?_
  refine la 6 (J 20) ?_
  simp only [nz]
  refine wn (tj (hK119 _ _ (wp_ret (then_r ?_))))
  have he120 : logged_m d epoch = (([] : List Wr), false, 20) := (hq107.trans (show logged_m_k1 d epoch y45 y47 y81 y83 = (([] : List Wr), false, 20) from by unfold logged_m_k1; rw [if_neg hs113, if_pos hc118] <;> rfl))
  exact ⟨rfl, .tuple #[.slice none 0 0, .bool false, J 20], res_ttt rfl rfl rfl rfl, ⟨⟨_, rfl, (.slice none 0 0), (by rw [he120]), by rw [he120]; exact hm117.give (From.pure (fun W => Rs.nil eWr 2 W))⟩, hm117.below⟩⟩
 refine wp_skip (tj (hK108 _ _ (wk (fun K121 hK121 => (wq ?_)))))
 refine lm 93 (v82) ?_
 refine la 4 (v82) ?_
 refine la 5 (.bool true) ?_
 simp only [nz]
 refine la 6 (J 0) ?_
 simp only [nz]
 refine wn (tj (hK121 _ _ (wp_ret ?_)))
 have hm122 : Mm none S w w116 [.see (DkR d dv0 dv1) Fd, .blk g4 #[dv0, dv1, J (d.fuse), .bool (d.down)] 25, .row v46 y45.length (y45.flatMap eS) 9 1, .see (Rs eWr 2 y81 v82) (fp v82 (y81.flatMap eWr))] := hm117.freeze 3 rfl
 have he123 : logged_m d epoch = (y81, true, 0) := (hq107.trans (show logged_m_k1 d epoch y45 y47 y81 y83 = (y81, true, 0) from by unfold logged_m_k1; rw [if_neg hs113, if_neg hc118] <;> rfl))
 exact ⟨rfl, .tuple #[v82, .bool true, J 0], res_ttt rfl rfl rfl rfl, ⟨⟨_, rfl, v82, (by rw [he123]), by rw [he123]; exact hm122.give (hm122.from 3 rfl)⟩, hm122.below⟩⟩
theorem run_logged {o : Oper} {a : Act} {w : World} {x0 x1 : Operand} {v0 v1 : Value} (ho : o.op = .call { callee := .value (.func 57), args := #[x0, x1], argTypes := #[25, 3] }) (h0 : a.eval x0 = v0) (h1 : a.eval x1 = v1) :
  (execOp a.eval o).run Tryd.prog w = .ok (.enter 57 #[v0, v1]) w := by
 unfold execOp
 simp only [ho]
 have hf : a.eval (.func 57) = .func (.func 57) #[] #[] := rfl
 generalize a.eval = f at *
 go_simp
end Go.Proofs.YtnmaaijeamlplaaDoor.Bk
namespace Go.Proofs.YtnmaaijeamlplaaDoor.Bk
open Go.RowKit Go.Proofs.YtnmaaijeamlplaaDoor.Mem
theorem lg0 (d : Dk) (e : Int) : ∀ k z, ∃ x, logged_m_l0 d e k z = .inl x
 | 0, z => ⟨z, rfl⟩
 | k + 1, z => by
  show ∃ x, logged_m_b0 d e (logged_m_l0 d e k) z.1 z.2 = .inl x
  unfold logged_m_b0
  split
  ·exact lg0 d e k _
  exact ⟨_, rfl⟩
theorem lg1 (d : Dk) (e : Int) (y : List (List UInt8)) (u : Nat) : ∀ k z, ∃ x, logged_m_l1 d e y u k z = .inl x
 | 0, z => ⟨z, rfl⟩
 | k + 1, z => by
  show ∃ x, logged_m_b1 d e y u (logged_m_l1 d e y u k) z.1 z.2 = .inl x
  unfold logged_m_b1
  split
  ·exact lg1 d e y u k _
  exact ⟨_, rfl⟩
theorem logged_good {d : Dk} {e : Int} (h : ¬ (!((logged_m d e).2.1)) = true) : good_m d (logged_m d e).1 = true := by
 have a := not_not_b h
 revert a
 unfold logged_m
 split
 ·exact fun h => nomatch (show false = true from h)
 split
 ·exact fun h => nomatch (show false = true from h)
 split
 ·exact fun h => nomatch (show false = true from h)
 obtain ⟨x, hx⟩ := lg0 d e ((((rlists_m (rread_m (((rsector_m d 1).take 16).drop 12))) + (rread_m (((rsector_m d 1).take 16).drop 12))) - ((0 : Nat) : Int)).toNat + 1) (([] : List (List UInt8)), 0)
 rw [hx]
 show (logged_m_k0 d e x.1 x.2).2.1 = true → good_m d (logged_m_k0 d e x.1 x.2).1 = true
 unfold logged_m_k0
 obtain ⟨z, hz⟩ := lg1 d e x.1 x.2 (((rread_m (((rsector_m d 1).take 16).drop 12)) - ((0 : Nat) : Int)).toNat + 1) (([] : List Wr), 0)
 rw [hz]
 show (logged_m_k1 d e x.1 x.2 z.1 z.2).2.1 = true → good_m d (logged_m_k1 d e x.1 x.2 z.1 z.2).1 = true
 unfold logged_m_k1
 split
 ·exact fun h => nomatch (show false = true from h)
 split
 ·exact fun h => nomatch (show false = true from h)
 next hg => exact fun _ => not_not_b hg
theorem rises_len (m : Int) : ∀ (l : List Wr) (y : Int), rises m y l = true → l = [] ∨ ((l.length : Nat) : Int) ≤ m - y - 1
 | [], y, h => .inl rfl
 | x :: l, y, h => by
  right
  unfold rises at h
  by_cases h2 : x.at_ ≤ y
  ·rw [if_pos h2] at h; cases h
  rw [if_neg h2] at h
  by_cases h3 : m ≤ x.at_
  ·rw [if_pos h3] at h; cases h
  rw [if_neg h3] at h
  rw [List.length_cons]
  rcases rises_len m l x.at_ h with e | e
  ·subst e; rw [List.length_nil]; omega
  omega
theorem good_few {d : Dk} {l : List Wr} (h1 : ¬ (!(rright_m d)) = true) (h : good_m d l = true) : l.length ≤ 2048 := by
 have a := (good_of (d := d) (l := l) (by rw [h]; decide)).1
 have h8 := rfew_of h1
 rw [rise_is] at a
 rw [log_eq] at a
 rcases rises_len _ l _ a with e | e
 ·subst e; exact Nat.zero_le _
 omega
end Go.Proofs.YtnmaaijeamlplaaDoor.Bk
namespace Go.Proofs.YtnmaaijeamlplaaDoor.Bk
open Go.RowKit
open Go.Proofs.YtnmaaijeamlplaaDoor.Sym Go.Proofs.YtnmaaijeamlplaaDoor.Mem
open Go.Proofs.YtnmaaijeamlplaaDoor.Sx hiding Mm m_alloc m_store m_call m_callx
attribute [local irreducible] right_m rright_m ready_m rready_m copied_m burn_m put_m get_m flush_m spent_m rput_m rget_m rflush_m blank_m rnew_m same_m
attribute [local irreducible] number_m value_m fill_m beginning_m log_m fits_m lists_m epoch_m
attribute [local irreducible] home_m putall_m
attribute [local irreducible] putfl_m body_m rise_m sized_m current_m join_m sum_m
attribute [local irreducible] format_m rend_m bring_m
attribute [local irreducible] commit_m
attribute [local irreducible] rlog_m four_m eight_m rread_m rfull_m
attribute [local irreducible] rhead_m rlists_m rfits_m repoch_m rbody_m
attribute [local irreducible] rall_m done_m rformat_m place_m
attribute [local irreducible] good_m rcommit_m
attribute [local irreducible] rsector_m logged_m
attribute [local irreducible] wpList Oper.wp
def rrecover_m (d : Dk) : Dk × Int :=
 if (!(rright_m d)) = true then
  (d, 1)
 else
  if d.down = true then
   (d, 11)
  else
   if (!((repoch_m d).2)) = true then
    (d, 20)
   else
    if 4611686018427387904 ≤ (repoch_m d).1 then
     (d, 20)
    else
     if ¬ (logged_m d ((repoch_m d).1)).2.2 = 0 then
      (d, (logged_m d ((repoch_m d).1)).2.2)
     else
      if (!((logged_m d ((repoch_m d).1)).2.1)) = true then
       (d, (logged_m d ((repoch_m d).1)).2.2)
      else
       (((place_m d ((repoch_m d).1) ((logged_m d ((repoch_m d).1)).1)).1), (place_m d ((repoch_m d).1) ((logged_m d ((repoch_m d).1)).1)).2)
theorem rrecover_any (d : Dk) (dv0 : Value) (dv1 : Value) (S : Nat → Prop) (w : World) (hd : From S (DkR d dv0 dv1) w) (hT : Laid2 w) (hp0 : d.safe.length ≤ 8796093021952) (hp1 : d.loose.length ≤ 5864063000000) (hp2 : d.fuse ≤ 9223372036854775807) : Calls Tryd.prog 23 #[.agg #[dv0, dv1, J (d.fuse), .bool (d.down)]] w (fun e w' => (∃ v, e = .returned v ∧ ∃ (o0 : Value) (o1 : Value), v = .tuple #[.agg #[o0, o1, J (((rrecover_m d).1).fuse), .bool (((rrecover_m d).1).down)], J ((rrecover_m d).2)] ∧ Gives w w' S (DkR ((rrecover_m d).1) o0 o1)) ∧ Below w.heap.size w w') := by
 go_enter Tryd.func23, Tryd.ntmps23
 have hm00 := Mm.nil none S w
 obtain ⟨Fd, hm01⟩ := hm00.come hd
 have hm0 := hm01
 refine wk (fun K1 hK1 => (wq ?_))
 refine lst rfl (m_alloc (c := #[dv0, dv1, J (d.fuse), .bool (d.down)]) (T := 25) hm0 1 rfl (run_box rfl rfl) (fun g4 w2 hm3 => ?_))
 simp only [nz]
 refine lst rfl (m_alloc (c := #[.slice none 0 0, .slice none 0 0, J 0, .bool false]) (T := 25) hm3 2 rfl (by unfold execOp; go_simp; try rfl) (fun g7 w5 hm6 => ?_))
 simp only [nz]
 refine la 3 (J 0) ?_
 simp only [nz]
 refine wn (tj (hK1 _ _ (wk (fun K8 hK8 => (wk (fun K9 hK9 => (wq ?_)))))))
 refine lw 9 (.agg #[dv0, dv1, J (d.fuse), .bool (d.down)]) (r_whole (hm6.at 1 rfl) Tryd.underlying25 rfl (by exact sz_25) rfl rfl) ?_
 simp only [nz]
 refine lst rfl (m_call hm6 10 (.bool ((rright_m d))) rfl (run_rright rfl rfl) (rright_any d dv0 dv1 _ (hm6.see 0 rfl) (by omega)) (fun w10 hm11 => ?_))
 simp only [nz]
 refine lw 11 (.bool (!(rright_m d))) (r_not (rright_m d) rfl rfl) ?_
 simp only [nz]
 refine wn (tj (hK9 _ _ ?_))
 refine cond_B (!(rright_m d)) rfl (fun hc12 => ?_) (fun hc12 => ?_)
 ·refine wk (fun K13 hK13 => (wq ?_))
  refine lw 12 (.agg #[dv0, dv1, J (d.fuse), .bool (d.down)]) (r_whole (hm11.at 1 rfl) Tryd.underlying25 rfl (by exact sz_25) rfl rfl) ?_
  simp only [nz]
  have ho16 := (rd_one ((hm11.see 0 rfl).1))
  have ho17 := (rd_one ((hm11.see 0 rfl).2))
  refine lst rfl (m_store 2 25 _ _ 0 (.agg #[dv0, dv1, J (d.fuse), .bool (d.down)]) (old := #[.slice none 0 0, .slice none 0 0, J 0, .bool false]) (new := #[dv0, dv1, J (d.fuse), .bool (d.down)]) hm11 rfl rfl rfl rfl rfl (by exact sz_25) (show 0 + 4 ≤ 4 from by decide) a4 rfl (fun w14 hm15 => ?_))
  refine la 3 (J 1) ?_
  simp only [nz]
  refine wn (tj (hK13 _ _ (wp_ret (then_r ?_))))
  have he18 : rrecover_m d = (d, 1) := by unfold rrecover_m; rw [if_pos hc12] <;> rfl
  exact ⟨rfl, .tuple #[.agg #[dv0, dv1, J (d.fuse), .bool (d.down)], J 1], Mem.res_ct rfl rfl (hm15.at 2 rfl) Tryd.underlying25 rfl (by exact sz_25) rfl, ⟨⟨_, rfl, dv0, dv1, (by rw [he18]), by rw [he18]; exact hm15.give (hm15.from 0 rfl)⟩, hm15.below⟩⟩
 refine wp_skip (tj (hK8 _ _ (wk (fun K19 hK19 => (wk (fun K20 hK20 => (wq ?_)))))))
 refine lw 13 (Pp g4 3) (r_fa25_3 g4 0 rfl rfl) ?_
 refine lw 14 (.bool (d.down)) (r_load (hm11.at 1 rfl) rfl Tryd.underlying4 rfl rfl rfl) ?_
 simp only [nz]
 refine wn (tj (hK20 _ _ ?_))
 refine cond_B d.down rfl (fun hc21 => ?_) (fun hc21 => ?_)
 ·refine wk (fun K22 hK22 => (wq ?_))
  refine lw 15 (.agg #[dv0, dv1, J (d.fuse), .bool (d.down)]) (r_whole (hm11.at 1 rfl) Tryd.underlying25 rfl (by exact sz_25) rfl rfl) ?_
  simp only [nz]
  have ho25 := (rd_one ((hm11.see 0 rfl).1))
  have ho26 := (rd_one ((hm11.see 0 rfl).2))
  refine lst rfl (m_store 2 25 _ _ 0 (.agg #[dv0, dv1, J (d.fuse), .bool (d.down)]) (old := #[.slice none 0 0, .slice none 0 0, J 0, .bool false]) (new := #[dv0, dv1, J (d.fuse), .bool (d.down)]) hm11 rfl rfl rfl rfl rfl (by exact sz_25) (show 0 + 4 ≤ 4 from by decide) a4 rfl (fun w23 hm24 => ?_))
  refine la 3 (J 11) ?_
  simp only [nz]
  refine wn (tj (hK22 _ _ (wp_ret (then_r ?_))))
  have he27 : rrecover_m d = (d, 11) := by unfold rrecover_m; rw [if_neg hc12, if_pos hc21] <;> rfl
  exact ⟨rfl, .tuple #[.agg #[dv0, dv1, J (d.fuse), .bool (d.down)], J 11], Mem.res_ct rfl rfl (hm24.at 2 rfl) Tryd.underlying25 rfl (by exact sz_25) rfl, ⟨⟨_, rfl, dv0, dv1, (by rw [he27]), by rw [he27]; exact hm24.give (hm24.from 0 rfl)⟩, hm24.below⟩⟩
 refine wp_skip (tj (hK19 _ _ (wk (fun K28 hK28 => (wq ?_)))))
 refine lw 17 (.agg #[dv0, dv1, J (d.fuse), .bool (d.down)]) (r_whole (hm11.at 1 rfl) Tryd.underlying25 rfl (by exact sz_25) rfl rfl) ?_
 simp only [nz]
 refine lst rfl (m_call hm11 18 (.tuple #[J ((repoch_m d).1), .bool ((repoch_m d).2)]) rfl (run_repoch rfl rfl) (repoch_any d dv0 dv1 _ (hm11.see 0 rfl) (by omega) (by omega)) (fun w29 hm30 => ?_))
 simp only [nz]
 refine lm 16 (.tuple #[J ((repoch_m d).1), .bool ((repoch_m d).2)]) ?_
 refine lw 19 (J ((repoch_m d).1)) (run_ex rfl rfl rfl) ?_
 refine lw 20 (.bool ((repoch_m d).2)) (run_ex rfl rfl rfl) ?_
 simp only [nz]
 refine la 4 (J ((repoch_m d).1)) ?_
 refine la 5 (.bool ((repoch_m d).2)) ?_
 simp only [nz]
 refine wn (tj (hK28 _ _ (wk (fun K31 hK31 => (wk (fun K32 hK32 => (wq ?_)))))))
 refine lm 21 (.bool ((repoch_m d).2)) ?_
 simp only [nz]
 refine lvB 22 (!((repoch_m d).2)) rfl rfl (r_not ((repoch_m d).2) rfl rfl) (fun hs33 => ?_) (fun hs33 => ?_)
 ·simp only [nz]
  refine lm 23 (.bool true) ?_
  simp only [nz]
  refine lst_skip 24 rfl rfl ?_
  simp only [nz]
  refine lst_skip 25 rfl rfl ?_
  simp only [nz]
  refine lw 26 (.bool true) (run_pick rfl rfl rfl) ?_
  simp only [nz]
  refine wn (tj (hK32 _ _ ?_))
  refine cond_t rfl ?_
  refine wk (fun K34 hK34 => (wq ?_))
  refine lw 27 (.agg #[dv0, dv1, J (d.fuse), .bool (d.down)]) (r_whole (hm30.at 1 rfl) Tryd.underlying25 rfl (by exact sz_25) rfl rfl) ?_
  simp only [nz]
  have ho37 := (rd_one ((hm30.see 0 rfl).1))
  have ho38 := (rd_one ((hm30.see 0 rfl).2))
  refine lst rfl (m_store 2 25 _ _ 0 (.agg #[dv0, dv1, J (d.fuse), .bool (d.down)]) (old := #[.slice none 0 0, .slice none 0 0, J 0, .bool false]) (new := #[dv0, dv1, J (d.fuse), .bool (d.down)]) hm30 rfl rfl rfl rfl rfl (by exact sz_25) (show 0 + 4 ≤ 4 from by decide) a4 rfl (fun w35 hm36 => ?_))
  refine la 3 (J 20) ?_
  simp only [nz]
  refine wn (tj (hK34 _ _ (wp_ret (then_r ?_))))
  have he39 : rrecover_m d = (d, 20) := by unfold rrecover_m; rw [if_neg hc12, if_neg hc21, if_pos hs33] <;> rfl
  exact ⟨rfl, .tuple #[.agg #[dv0, dv1, J (d.fuse), .bool (d.down)], J 20], Mem.res_ct rfl rfl (hm36.at 2 rfl) Tryd.underlying25 rfl (by exact sz_25) rfl, ⟨⟨_, rfl, dv0, dv1, (by rw [he39]), by rw [he39]; exact hm36.give (hm36.from 0 rfl)⟩, hm36.below⟩⟩
 simp only [nz]
 refine lm 23 (.bool false) ?_
 refine lm 24 (J ((repoch_m d).1)) ?_
 refine lw 25 (.bool (decide (4611686018427387904 ≤ (repoch_m d).1))) (z_geq ((repoch_m d).1) 4611686018427387904 rfl rfl rfl) ?_
 simp only [nz]
 refine lw 26 (.bool (decide (4611686018427387904 ≤ (repoch_m d).1))) (run_pickf rfl rfl rfl) ?_
 simp only [nz]
 refine wn (tj (hK32 _ _ ?_))
 refine cond_d (4611686018427387904 ≤ (repoch_m d).1) rfl (fun hc40 => ?_) (fun hc40 => ?_)
 ·refine wk (fun K41 hK41 => (wq ?_))
  refine lw 27 (.agg #[dv0, dv1, J (d.fuse), .bool (d.down)]) (r_whole (hm30.at 1 rfl) Tryd.underlying25 rfl (by exact sz_25) rfl rfl) ?_
  simp only [nz]
  have ho44 := (rd_one ((hm30.see 0 rfl).1))
  have ho45 := (rd_one ((hm30.see 0 rfl).2))
  refine lst rfl (m_store 2 25 _ _ 0 (.agg #[dv0, dv1, J (d.fuse), .bool (d.down)]) (old := #[.slice none 0 0, .slice none 0 0, J 0, .bool false]) (new := #[dv0, dv1, J (d.fuse), .bool (d.down)]) hm30 rfl rfl rfl rfl rfl (by exact sz_25) (show 0 + 4 ≤ 4 from by decide) a4 rfl (fun w42 hm43 => ?_))
  refine la 3 (J 20) ?_
  simp only [nz]
  refine wn (tj (hK41 _ _ (wp_ret (then_r ?_))))
  have he46 : rrecover_m d = (d, 20) := by unfold rrecover_m; rw [if_neg hc12, if_neg hc21, if_neg hs33, if_pos hc40] <;> rfl
  exact ⟨rfl, .tuple #[.agg #[dv0, dv1, J (d.fuse), .bool (d.down)], J 20], Mem.res_ct rfl rfl (hm43.at 2 rfl) Tryd.underlying25 rfl (by exact sz_25) rfl, ⟨⟨_, rfl, dv0, dv1, (by rw [he46]), by rw [he46]; exact hm43.give (hm43.from 0 rfl)⟩, hm43.below⟩⟩
 refine wp_skip (tj (hK31 _ _ (wk (fun K47 hK47 => (wq ?_)))))
 refine lw 29 (.agg #[dv0, dv1, J (d.fuse), .bool (d.down)]) (r_whole (hm30.at 1 rfl) Tryd.underlying25 rfl (by exact sz_25) rfl rfl) ?_
 refine lm 30 (J ((repoch_m d).1)) ?_
 simp only [nz]
 refine lst rfl (m_callx hm30 31 rfl (run_logged rfl rfl rfl) (logged_any d ((repoch_m d).1) dv0 dv1 (seeS _) _ (hm30.from 0 rfl) (Laid2.below hT hm30.below) (by omega) (by omega) (by exact not_not_b (by assumption)) (by exact Bool.eq_false_iff.2 (by assumption))) (fun vv53 w48 hR54 hb55 hm49 => ?_))
 obtain ⟨v50, rfl, hg56⟩ := hR54
 obtain ⟨F52, hm57⟩ : ∃ F52, Mm none S w w48 [.see (DkR d dv0 dv1) Fd, .blk g4 #[dv0, dv1, J (d.fuse), .bool (d.down)] 25, .blk g7 #[.slice none 0 0, .slice none 0 0, J 0, .bool false] 25, .see (Rs eWr 2 ((logged_m d ((repoch_m d).1)).1) v50) F52] := Mm.tookS hm30 hb55 hg56
 clear hm49 hg56 hb55
 simp only [nz]
 refine lm 28 (.tuple #[v50, .bool ((logged_m d ((repoch_m d).1)).2.1), J ((logged_m d ((repoch_m d).1)).2.2)]) ?_
 refine lw 32 (v50) (run_ex rfl rfl rfl) ?_
 refine lw 33 (.bool ((logged_m d ((repoch_m d).1)).2.1)) (run_ex rfl rfl rfl) ?_
 simp only [nz]
 refine lw 34 (J ((logged_m d ((repoch_m d).1)).2.2)) (run_ex rfl rfl rfl) ?_
 refine la 6 (v50) ?_
 refine la 7 (.bool ((logged_m d ((repoch_m d).1)).2.1)) ?_
 simp only [nz]
 refine la 8 (J ((logged_m d ((repoch_m d).1)).2.2)) ?_
 simp only [nz]
 refine wn (tj (hK47 _ _ (wk (fun K58 hK58 => (wk (fun K59 hK59 => (wq ?_)))))))
 refine lm 35 (J ((logged_m d ((repoch_m d).1)).2.2)) ?_
 simp only [nz]
 refine lvb 36 (¬ (logged_m d ((repoch_m d).1)).2.2 = 0) rfl rfl (z_neq ((logged_m d ((repoch_m d).1)).2.2) 0 rfl rfl rfl) (fun hs60 => ?_) (fun hs60 => ?_)
 ·simp only [nz]
  refine lm 37 (.bool true) ?_
  simp only [nz]
  refine lst_skip 38 rfl rfl ?_
  simp only [nz]
  refine lst_skip 39 rfl rfl ?_
  simp only [nz]
  refine lw 40 (.bool true) (run_pick rfl rfl rfl) ?_
  simp only [nz]
  refine wn (tj (hK59 _ _ ?_))
  refine cond_t rfl ?_
  refine wk (fun K61 hK61 => (wq ?_))
  refine lw 41 (.agg #[dv0, dv1, J (d.fuse), .bool (d.down)]) (r_whole (hm57.at 1 rfl) Tryd.underlying25 rfl (by exact sz_25) rfl rfl) ?_
  refine lm 42 (J ((logged_m d ((repoch_m d).1)).2.2)) ?_
  simp only [nz]
  have ho64 := (rd_one ((hm57.see 0 rfl).1))
  have ho65 := (rd_one ((hm57.see 0 rfl).2))
  refine lst rfl (m_store 2 25 _ _ 0 (.agg #[dv0, dv1, J (d.fuse), .bool (d.down)]) (old := #[.slice none 0 0, .slice none 0 0, J 0, .bool false]) (new := #[dv0, dv1, J (d.fuse), .bool (d.down)]) hm57 rfl rfl rfl rfl rfl (by exact sz_25) (show 0 + 4 ≤ 4 from by decide) a4 rfl (fun w62 hm63 => ?_))
  refine la 3 (J ((logged_m d ((repoch_m d).1)).2.2)) ?_
  simp only [nz]
  refine wn (tj (hK61 _ _ (wp_ret (then_r ?_))))
  have he66 : rrecover_m d = (d, (logged_m d ((repoch_m d).1)).2.2) := by unfold rrecover_m; rw [if_neg hc12, if_neg hc21, if_neg hs33, if_neg hc40, if_pos hs60] <;> rfl
  exact ⟨rfl, .tuple #[.agg #[dv0, dv1, J (d.fuse), .bool (d.down)], J ((logged_m d ((repoch_m d).1)).2.2)], Mem.res_ct rfl rfl (hm63.at 2 rfl) Tryd.underlying25 rfl (by exact sz_25) rfl, ⟨⟨_, rfl, dv0, dv1, (by rw [he66]), by rw [he66]; exact hm63.give (hm63.from 0 rfl)⟩, hm63.below⟩⟩
 simp only [nz]
 refine lm 37 (.bool false) ?_
 refine lm 38 (.bool ((logged_m d ((repoch_m d).1)).2.1)) ?_
 refine lw 39 (.bool (!((logged_m d ((repoch_m d).1)).2.1))) (r_not ((logged_m d ((repoch_m d).1)).2.1) rfl rfl) ?_
 simp only [nz]
 refine lw 40 (.bool (!((logged_m d ((repoch_m d).1)).2.1))) (run_pickf rfl rfl rfl) ?_
 simp only [nz]
 refine wn (tj (hK59 _ _ ?_))
 refine cond_B (!((logged_m d ((repoch_m d).1)).2.1)) rfl (fun hc67 => ?_) (fun hc67 => ?_)
 ·refine wk (fun K68 hK68 => (wq ?_))
  refine lw 41 (.agg #[dv0, dv1, J (d.fuse), .bool (d.down)]) (r_whole (hm57.at 1 rfl) Tryd.underlying25 rfl (by exact sz_25) rfl rfl) ?_
  refine lm 42 (J ((logged_m d ((repoch_m d).1)).2.2)) ?_
  simp only [nz]
  have ho71 := (rd_one ((hm57.see 0 rfl).1))
  have ho72 := (rd_one ((hm57.see 0 rfl).2))
  refine lst rfl (m_store 2 25 _ _ 0 (.agg #[dv0, dv1, J (d.fuse), .bool (d.down)]) (old := #[.slice none 0 0, .slice none 0 0, J 0, .bool false]) (new := #[dv0, dv1, J (d.fuse), .bool (d.down)]) hm57 rfl rfl rfl rfl rfl (by exact sz_25) (show 0 + 4 ≤ 4 from by decide) a4 rfl (fun w69 hm70 => ?_))
  refine la 3 (J ((logged_m d ((repoch_m d).1)).2.2)) ?_
  simp only [nz]
  refine wn (tj (hK68 _ _ (wp_ret (then_r ?_))))
  have he73 : rrecover_m d = (d, (logged_m d ((repoch_m d).1)).2.2) := by unfold rrecover_m; rw [if_neg hc12, if_neg hc21, if_neg hs33, if_neg hc40, if_neg hs60, if_pos hc67] <;> rfl
  exact ⟨rfl, .tuple #[.agg #[dv0, dv1, J (d.fuse), .bool (d.down)], J ((logged_m d ((repoch_m d).1)).2.2)], Mem.res_ct rfl rfl (hm70.at 2 rfl) Tryd.underlying25 rfl (by exact sz_25) rfl, ⟨⟨_, rfl, dv0, dv1, (by rw [he73]), by rw [he73]; exact hm70.give (hm70.from 0 rfl)⟩, hm70.below⟩⟩
 refine wp_skip (tj (hK58 _ _ (wk (fun K74 hK74 => (wq ?_)))))
 refine lw 43 (.agg #[dv0, dv1, J (d.fuse), .bool (d.down)]) (r_whole (hm57.at 1 rfl) Tryd.underlying25 rfl (by exact sz_25) rfl rfl) ?_
 refine lm 44 (J ((repoch_m d).1)) ?_
 refine lm 45 (v50) ?_
 simp only [nz]
 refine lst rfl (m_callx hm57 46 rfl (run_place rfl rfl rfl rfl) (place_any d ((repoch_m d).1) ((logged_m d ((repoch_m d).1)).1) dv0 dv1 v50 (seeS _) _ (hm57.from 0 rfl) (hm57.from 3 rfl) (by omega) (by omega) (by omega) (by have hgf := good_few (d := d) (by assumption) (logged_good (d := d) (by assumption)); omega) (by have hep := repoch_pos (d := d) (by assumption); omega) (by omega) (by exact good_ats (d := d) (by assumption) (by rw [logged_good (d := d) (by assumption)]; decide))) (fun vv81 w75 hR82 hb83 hm76 => ?_))
 obtain ⟨v77, v78, rfl, hg84⟩ := hR82
 obtain ⟨F80, hm85⟩ : ∃ F80, Mm none S w w75 [.see (DkR d dv0 dv1) Fd, .blk g4 #[dv0, dv1, J (d.fuse), .bool (d.down)] 25, .blk g7 #[.slice none 0 0, .slice none 0 0, J 0, .bool false] 25, .see (Rs eWr 2 ((logged_m d ((repoch_m d).1)).1) v50) F52, .see (DkR ((place_m d ((repoch_m d).1) ((logged_m d ((repoch_m d).1)).1)).1) v77 v78) F80] := Mm.tookS hm57 hb83 hg84
 clear hm76 hg84 hb83
 simp only [nz]
 refine lw 47 (.agg #[v77, v78, J (((place_m d ((repoch_m d).1) ((logged_m d ((repoch_m d).1)).1)).1).fuse), .bool (((place_m d ((repoch_m d).1) ((logged_m d ((repoch_m d).1)).1)).1).down)]) (run_ex rfl rfl rfl) ?_
 refine lw 48 (J ((place_m d ((repoch_m d).1) ((logged_m d ((repoch_m d).1)).1)).2)) (run_ex rfl rfl rfl) ?_
 simp only [nz]
 have ho88 := (rd_one ((hm85.see 4 rfl).1))
 have ho89 := (rd_one ((hm85.see 4 rfl).2))
 refine lst rfl (m_store 2 25 _ _ 0 (.agg #[v77, v78, J (((place_m d ((repoch_m d).1) ((logged_m d ((repoch_m d).1)).1)).1).fuse), .bool (((place_m d ((repoch_m d).1) ((logged_m d ((repoch_m d).1)).1)).1).down)]) (old := #[.slice none 0 0, .slice none 0 0, J 0, .bool false]) (new := #[v77, v78, J (((place_m d ((repoch_m d).1) ((logged_m d ((repoch_m d).1)).1)).1).fuse), .bool (((place_m d ((repoch_m d).1) ((logged_m d ((repoch_m d).1)).1)).1).down)]) hm85 rfl rfl rfl rfl rfl (by exact sz_25) (show 0 + 4 ≤ 4 from by decide) a4 rfl (fun w86 hm87 => ?_))
 refine la 3 (J ((place_m d ((repoch_m d).1) ((logged_m d ((repoch_m d).1)).1)).2)) ?_
 simp only [nz]
 refine wn (tj (hK74 _ _ (wp_ret ?_)))
 have he90 : rrecover_m d = (((place_m d ((repoch_m d).1) ((logged_m d ((repoch_m d).1)).1)).1), (place_m d ((repoch_m d).1) ((logged_m d ((repoch_m d).1)).1)).2) := by unfold rrecover_m; rw [if_neg hc12, if_neg hc21, if_neg hs33, if_neg hc40, if_neg hs60, if_neg hc67] <;> rfl
 exact ⟨rfl, .tuple #[.agg #[v77, v78, J (((place_m d ((repoch_m d).1) ((logged_m d ((repoch_m d).1)).1)).1).fuse), .bool (((place_m d ((repoch_m d).1) ((logged_m d ((repoch_m d).1)).1)).1).down)], J ((place_m d ((repoch_m d).1) ((logged_m d ((repoch_m d).1)).1)).2)], Mem.res_ct rfl rfl (hm87.at 2 rfl) Tryd.underlying25 rfl (by exact sz_25) rfl, ⟨⟨_, rfl, v77, v78, (by rw [he90]), by rw [he90]; exact hm87.give (hm87.from 4 rfl)⟩, hm87.below⟩⟩
theorem run_rrecover {o : Oper} {a : Act} {w : World} {x0 : Operand} {v0 : Value} (ho : o.op = .call { callee := .value (.func 23), args := #[x0], argTypes := #[25] }) (h0 : a.eval x0 = v0) :
  (execOp a.eval o).run Tryd.prog w = .ok (.enter 23 #[v0]) w := by
 unfold execOp
 simp only [ho]
 have hf : a.eval (.func 23) = .func (.func 23) #[] #[] := rfl
 generalize a.eval = f at *
 go_simp
end Go.Proofs.YtnmaaijeamlplaaDoor.Bk
namespace Go.Proofs.YtnmaaijeamlplaaDoor.Bk
open Go.RowKit Go.Proofs.YtnmaaijeamlplaaDoor.Mem
theorem nand_l {a b : Bool} (h : (!a) = true) : (!(a && b)) = true := by cases a <;> simp_all
theorem nand_r {a b : Bool} (h : (!b) = true) : (!(a && b)) = true := by cases a <;> cases b <;> simp_all
theorem nand_n {a b : Bool} (h : ¬ (!a) = true) (k : ¬ (!b) = true) : ¬ (!(a && b)) = true := by cases a <;> cases b <;> simp_all
theorem rcommit_eq (d : Dk) (l : List Wr) : rcommit_m d l = commit_m d l := by
 unfold rcommit_m commit_m
 try unfold QeH1
 try unfold QeH2
 simp only [rright_eq, good_is, repoch_eq, rbody_eq, done_is, rall_eq, place_eq]
 by_cases h1 : (!(right_m d)) = true
 ·rw [if_pos h1, if_pos h1]
 rw [if_neg h1, if_neg h1]
 by_cases h2 : (!(rise_m d l)) = true
 ·rw [if_pos h2, if_pos (nand_l h2)]
 rw [if_neg h2]
 by_cases h3 : (!(sized_m l)) = true
 ·rw [if_pos h3, if_pos (nand_r h3)]
 rw [if_neg h3, if_neg (nand_n h2 h3)]
 by_cases h4 : d.down = true
 ·have ec : current_m d = (0, 11) := by unfold current_m; rw [if_pos h4]
  rw [if_pos h4, ec, if_pos (show ¬ ((0 : Int), (11 : Int)).2 = 0 by decide)]
 rw [if_neg h4]
 by_cases h5 : (!((epoch_m d).2)) = true
 ·have ec : current_m d = (0, 20) := by unfold current_m; rw [if_neg h4, if_pos h5]
  rw [if_pos h5, ec, if_pos (show ¬ ((0 : Int), (20 : Int)).2 = 0 by decide)]
 rw [if_neg h5]
 by_cases h6 : 4611686018427387904 ≤ (epoch_m d).1
 ·have ec : current_m d = (0, 20) := by unfold current_m; rw [if_neg h4, if_neg h5, if_pos h6]
  rw [if_pos h6, ec, if_pos (show ¬ ((0 : Int), (20 : Int)).2 = 0 by decide)]
 rw [if_neg h6]
 have ec : current_m d = ((epoch_m d).1, 0) := by unfold current_m; rw [if_neg h4, if_neg h5, if_neg h6]
 rw [ec, if_neg (show ¬ ¬ ((epoch_m d).1, (0 : Int)).2 = 0 from fun c => c rfl)]
end Go.Proofs.YtnmaaijeamlplaaDoor.Bk
namespace Go.Proofs.YtnmaaijeamlplaaDoor.Bk
open Go.RowKit Go.Proofs.YtnmaaijeamlplaaDoor.Mem
theorem mark_len (e : Int) : ([68, 79, 78, 69] ++ number_m e 8).length = 12 := by
 have := number_len e 8 (by decide) (by decide)
 rw [List.length_append]
 simp only [List.length_cons, List.length_nil]
 omega
theorem hpre_12 (s : List UInt8) (e : Int) (hs : s.length = 256) : hpre_m s ([68, 79, 78, 69] ++ number_m e 8) = decide (s.take 12 = [68, 79, 78, 69] ++ number_m e 8) := by
 unfold hpre_m
 rw [← Lib.hasPrefix_of_take, mark_len, hs, decide_eq_true (show 12 ≤ 256 by decide), Bool.true_and]
 by_cases h : s.take 12 = [68, 79, 78, 69] ++ number_m e 8
 ·rw [decide_eq_true h, h]; simp
 rw [decide_eq_false h]; exact beq_eq_false_iff_ne.2 h
def numOf (s : List UInt8) : Int := value_m ((s.take 16).drop 12)
theorem ended_is (d : Dk) (e : Int) (s : List UInt8) (hs : s.length = 256) : ended_m d e s = if s.take 12 = [68, 79, 78, 69] ++ number_m e 8 then (if FitsP d (numOf s) then numOf s else 0) else 0 := by
 unfold ended_m
 rw [hpre_12 s e hs, mark_len]
 show (if (!(decide (s.take 12 = [68, 79, 78, 69] ++ number_m e 8))) = true then 0 else if ¬ FitsP d (numOf s) then 0 else numOf s) = _
 by_cases h : s.take 12 = [68, 79, 78, 69] ++ number_m e 8
 ·rw [if_pos h, decide_eq_true h, if_neg (by decide)]
  by_cases h2 : FitsP d (numOf s)
  ·rw [if_pos h2, if_neg (fun c => c h2)]
  rw [if_neg h2, if_pos h2]
 rw [if_neg h, decide_eq_false h, if_pos (by decide)]
theorem rsector_is (d : Dk) (at_ : Int) : rsector_m d at_ = (get_m d at_).1 := by
 unfold rsector_m
 rw [get_eq]
theorem read_loops {d : Dk} (e : Int) {n : Int} (h : rright_m d = true) (hd : d.down = false) (hn : rread_m (((rsector_m d 1).take 16).drop 12) = n) (hf : FitsP d n) : ∀ k (l : List (List UInt8)) (i : Nat), ∃ x, readbody_m_l0 d n k (l, i) = .inl x ∧ logged_m_l0 d e k (l, i) = .inl x
 | 0, l, i => ⟨(l, i), rfl, rfl⟩
 | k + 1, l, i => by
  show ∃ x, readbody_m_b0 d n (readbody_m_l0 d n k) l i = .inl x ∧ logged_m_b0 d e (logged_m_l0 d e k) l i = .inl x
  unfold readbody_m_b0 logged_m_b0
  rw [hn, rlists_eq]
  by_cases h1 : ((i : Nat) : Int) < lists_m n + n
  ·have hl := lists_is n
   unfold FitsP at hf
   have hg : (get_m d (((2 + i) : Nat) : Int)).2 = 0 := by rw [get_eq]; exact rget_ok h hd (by omega) (by omega)
   rw [if_pos h1, if_pos h1, if_neg (fun c => c hg), rsector_is]
   exact read_loops e h hd hn hf k _ _
  rw [if_neg h1, if_neg h1]
  exact ⟨(l, i), rfl, rfl⟩
theorem write_loops {d : Dk} (e : Int) {n : Int} (hn : rread_m (((rsector_m d 1).take 16).drop 12) = n) (y : List (List UInt8)) (u : Nat) : ∀ k (l : List Wr) (i : Nat), ∃ x, writes_m_l0 y n k (l, i) = .inl x ∧ logged_m_l1 d e y u k (l, i) = .inl x
 | 0, l, i => ⟨(l, i), rfl, rfl⟩
 | k + 1, l, i => by
  show ∃ x, writes_m_b0 y n (writes_m_l0 y n k) l i = .inl x ∧ logged_m_b1 d e y u (logged_m_l1 d e y u k) l i = .inl x
  unfold writes_m_b0 logged_m_b1
  rw [hn, rlists_eq, rread_is]
  by_cases h1 : ((i : Nat) : Int) < n
  ·rw [if_pos h1, if_pos h1]
   exact write_loops e hn y u k _ _
  rw [if_neg h1, if_neg h1]
  exact ⟨(l, i), rfl, rfl⟩
theorem writes_sized (y : List (List UInt8)) (n : Int) (hy : ∀ s ∈ y, s.length = 256) (hl : ((y.length : Nat) : Int) = (n + 60) / 61 + n) : sized_m (writes_m y n) = true := by
 rw [sized_is, writes_is, List.all_eq_true]
 intro x hx
 obtain ⟨i, hi, rfl⟩ := List.mem_map.1 hx
 have hi2 := List.mem_range'.1 hi
 obtain ⟨j, hj, rfl⟩ := hi2
 refine decide_eq_true ?_
 show (y.getD (((lists_m n) + (((0 + 1 * j) : Nat) : Int)).toNat) []).length = 256
 have hls := lists_is n
 exact at_of hy _ (by omega)
theorem logged_is {d : Dk} (e : Int) (h : rright_m d = true) (hd : d.down = false) : logged_m d e = if ended_m d e (get_m d 1).1 = 0 then ([], false, 0) else if ¬ (get_m d 1).1 = rend_m e (ended_m d e (get_m d 1).1) (readbody_m d (ended_m d e (get_m d 1).1)).1 then ([], false, 20) else if (!(rise_m d (writes_m (readbody_m d (ended_m d e (get_m d 1).1)).1 (ended_m d e (get_m d 1).1)))) = true then ([], false, 20) else (writes_m (readbody_m d (ended_m d e (get_m d 1).1)).1 (ended_m d e (get_m d 1).1), true, 0) := by
 have h8 := reight_b h
 have hs : (get_m d 1).1.length = 256 := by rw [get_eq]; exact rget_full h hd (by decide) (by omega)
 have hn : rread_m (((rsector_m d 1).take 16).drop 12) = numOf (get_m d 1).1 := by rw [rread_is, rsector_is]; rfl
 rw [ended_is d e _ hs]
 unfold logged_m
 rw [hn, rsector_is, eight_is]
 by_cases c1 : (get_m d 1).1.take 12 = [68, 79, 78, 69] ++ number_m e 8
 ·rw [if_neg (fun c => c c1), if_pos c1]
  by_cases c2 : numOf (get_m d 1).1 < 1
  ·rw [if_pos c2]
   by_cases c3 : FitsP d (numOf (get_m d 1).1)
   ·have c4 : numOf (get_m d 1).1 = 0 := by have c5 := c3.1; omega
    rw [if_pos c3, if_pos c4]
   rw [if_neg c3, if_pos rfl]
  rw [if_neg c2]
  show (if ¬ FitsP d (numOf (get_m d 1).1) then ([], false, 0) else _) = _
  by_cases c3 : FitsP d (numOf (get_m d 1).1)
  ·rw [if_neg (fun c => c c3), if_pos c3, if_neg (show ¬ numOf (get_m d 1).1 = 0 by omega), rlists_eq]
   obtain ⟨x, hx1, hx2⟩ := read_loops e h hd hn c3 ((((lists_m (numOf (get_m d 1).1)) + numOf (get_m d 1).1) - ((0 : Nat) : Int)).toNat + 1) [] 0
   have hb : readbody_m d (numOf (get_m d 1).1) = (x.1, 0) := by
    unfold readbody_m
    rw [hx1]
    rfl
   rw [hx2, hb]
   have hrb := readbody_of d (numOf (get_m d 1).1) (by rw [lists_is]; have c5 := c3.1; omega) (by rw [hb])
   rw [hb, lists_is] at hrb
   show logged_m_k0 d e x.1 x.2 = _
   unfold logged_m_k0
   obtain ⟨z, hz1, hz2⟩ := write_loops (d := d) e hn x.1 x.2 ((numOf (get_m d 1).1 - ((0 : Nat) : Int)).toNat + 1) [] 0
   have hw : writes_m x.1 (numOf (get_m d 1).1) = z.1 := by
    unfold writes_m
    rw [hz1]
    rfl
   rw [hn, hz2, hw]
   show logged_m_k1 d e x.1 x.2 z.1 z.2 = _
   unfold logged_m_k1
   have hsz : sized_m z.1 = true := by rw [← hw]; exact writes_sized _ _ hrb.2 hrb.1
   rw [hn, done_is, rsector_is, good_is, hsz, Bool.and_true]
  rw [if_pos c3, if_neg c3, if_pos rfl]
 rw [if_pos c1, if_neg c1, if_pos rfl]
theorem rrecover_eq (d : Dk) : rrecover_m d = recover_m d := by
 unfold rrecover_m recover_m
 rw [rright_eq]
 by_cases h1 : (!(right_m d)) = true
 ·rw [if_pos h1, if_pos h1]
 rw [if_neg h1, if_neg h1, repoch_eq]
 by_cases h4 : d.down = true
 ·have ec : current_m d = (0, 11) := by unfold current_m; rw [if_pos h4]
  rw [if_pos h4, ec, if_pos (show ¬ ((0 : Int), (11 : Int)).2 = 0 by decide)]
 rw [if_neg h4]
 by_cases h5 : (!((epoch_m d).2)) = true
 ·have ec : current_m d = (0, 20) := by unfold current_m; rw [if_neg h4, if_pos h5]
  rw [if_pos h5, ec, if_pos (show ¬ ((0 : Int), (20 : Int)).2 = 0 by decide)]
 rw [if_neg h5]
 by_cases h6 : 4611686018427387904 ≤ (epoch_m d).1
 ·have ec : current_m d = (0, 20) := by unfold current_m; rw [if_neg h4, if_neg h5, if_pos h6]
  rw [if_pos h6, ec, if_pos (show ¬ ((0 : Int), (20 : Int)).2 = 0 by decide)]
 rw [if_neg h6]
 have ec : current_m d = ((epoch_m d).1, 0) := by unfold current_m; rw [if_neg h4, if_neg h5, if_neg h6]
 rw [ec, if_neg (show ¬ ¬ ((epoch_m d).1, (0 : Int)).2 = 0 from fun c => c rfl)]
 have hr : rright_m d = true := by rw [rright_eq]; exact not_not_b h1
 have hd : d.down = false := Bool.eq_false_iff.2 h4
 have h8 := reight_b hr
 have hg : (get_m d 1).2 = 0 := by rw [get_eq]; exact rget_ok hr hd (by decide) (by omega)
 rw [if_neg (show ¬ ¬ (get_m d 1).2 = 0 from fun c => c hg), logged_is (epoch_m d).1 hr hd, place_eq]
 by_cases c1 : ended_m d (epoch_m d).1 (get_m d 1).1 = 0
 ·rw [if_pos c1, if_pos c1]
  rfl
 rw [if_neg c1, if_neg c1]
 have hb : (readbody_m d (ended_m d (epoch_m d).1 (get_m d 1).1)).2 = 0 := by
  have hf := (ended_of d (epoch_m d).1 (get_m d 1).1).resolve_left c1
  have hs : (get_m d 1).1.length = 256 := by rw [get_eq]; exact rget_full hr hd (by decide) (by omega)
  have hn : rread_m (((rsector_m d 1).take 16).drop 12) = numOf (get_m d 1).1 := by rw [rread_is, rsector_is]; rfl
  have he : ended_m d (epoch_m d).1 (get_m d 1).1 = numOf (get_m d 1).1 := by
   rw [ended_is d _ _ hs] at c1 ⊢
   by_cases a1 : (get_m d 1).1.take 12 = [68, 79, 78, 69] ++ number_m (epoch_m d).1 8
   ·rw [if_pos a1] at c1 ⊢
    by_cases a2 : FitsP d (numOf (get_m d 1).1)
    ·rw [if_pos a2]
    rw [if_neg a2] at c1; exact absurd rfl c1
   rw [if_neg a1] at c1; exact absurd rfl c1
  rw [he] at hf ⊢
  obtain ⟨x, hx1, _⟩ := read_loops (epoch_m d).1 hr hd hn hf ((((lists_m (numOf (get_m d 1).1)) + numOf (get_m d 1).1) - ((0 : Nat) : Int)).toNat + 1) [] 0
  unfold readbody_m
  rw [hx1]
  rfl
 rw [if_neg (show ¬ ¬ (readbody_m d (ended_m d (epoch_m d).1 (get_m d 1).1)).2 = 0 from fun c => c hb)]
 by_cases c2 : (get_m d 1).1 = rend_m (epoch_m d).1 (ended_m d (epoch_m d).1 (get_m d 1).1) (readbody_m d (ended_m d (epoch_m d).1 (get_m d 1).1)).1
 ·have c2' := fun (c : ¬ (get_m d 1).1 = rend_m (epoch_m d).1 (ended_m d (epoch_m d).1 (get_m d 1).1) (readbody_m d (ended_m d (epoch_m d).1 (get_m d 1).1)).1) => c c2
  rw [if_neg c2', if_neg c2']
  by_cases c3 : (!(rise_m d (writes_m (readbody_m d (ended_m d (epoch_m d).1 (get_m d 1).1)).1 (ended_m d (epoch_m d).1 (get_m d 1).1)))) = true
  ·rw [if_pos c3, if_pos c3]
   rfl
  rw [if_neg c3, if_neg c3]
  rfl
 rw [if_pos c2, if_pos c2]
 rfl
end Go.Proofs.YtnmaaijeamlplaaDoor.Bk
