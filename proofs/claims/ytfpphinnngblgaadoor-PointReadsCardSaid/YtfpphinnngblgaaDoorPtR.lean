/- Layer 3, the document's answers: what gives 1, roots. Layer 5, the document's answers: the field as it answers. -/
import Derived.Test.YtfpphinnngblgaaDoorFldAC
import Derived.Test.YtfpphinnngblgaaDoorFldK
import Derived.Test.YtfpphinnngblgaaDoorPtA
namespace Go.Proofs.YtfpphinnngblgaaDoor.Fld
open Go.RowKit
open Go.Proofs.YtfpphinnngblgaaDoor.Num (up)
open Go.Proofs.YtfpphinnngblgaaDoor.Arr Go.Proofs.YtfpphinnngblgaaDoor.Sym

def K1a : Nat := 57896044618658097711785492504343953926634992332820282019728792003956564819966
def K2a : Nat := 57896044618658097711785492504343953926634992332820282019728792003956564819963
theorem put_row (x y i z : Nat) (h : ∀ j, j < 32 → up (bt x) i z j = bt y j) : (bs x).setIfInBounds i (.int .u8 (z : Int)) = bs y := by
  unfold bs
  rw [rowOf_set]
  exact rowOf_congr h
theorem put_a : (bs PP).setIfInBounds 0 (.int .u8 254) = bs K1a := put_row PP K1a 0 254 (by decide +kernel)
theorem put_b : (bs K1a).setIfInBounds 31 (.int .u8 15) = bs K1 := put_row K1a K1 31 15 (by decide +kernel)
theorem put_c : (bs PP).setIfInBounds 0 (.int .u8 251) = bs K2a := put_row PP K2a 0 251 (by decide +kernel)
theorem put_d : (bs K2a).setIfInBounds 31 (.int .u8 31) = bs K2 := put_row K2a K2 31 31 (by decide +kernel)
section
variable {P : Program} {ops : Array Oper} {oi : Oper} {a : Act} {w : World} {K : Act → World → Prop} {Q : Exit → Act → World → Prop}
theorem w_put (g i : Nat) (v : Value) {c d : Array Value} {T : TypeId} (hd : oi.dst = none) (hb : Blk w g c T) (hset : c.setIfInBounds i v = d) (hrun : (execOp a.eval oi).run P w = .ok .skip (w.setCell ⟨g, i, none⟩ v))
    (h : ∀ w', w' = w.setRow g d → K a w') : oi.wp P a w K Q := by
  have e : w.setCell ⟨g, i, none⟩ v = w.setRow g (c.setIfInBounds i v) := setCell_eq_setRow w _ i c T (0, 0) v hb
  rw [e, hset] at hrun
  unfold Oper.wp
  rw [hrun]
  have := h _ rfl
  show K (a.put oi.dst undef) _
  unfold Act.put
  rw [hd]
  exact this
end
section
variable {o : Oper} {a : Act} {w : World} {x y : Operand}
theorem run_put {T : TypeId} {z : Int} (f : Nat → Nat) (i B : Nat) (hr : Row w B 32 T .u8 f) (hi : i < 32) (ho : o.op = .store 5 x (.const (.int .u8 z))) (hx : a.eval x = .pointer (some ⟨B, i, none⟩)) :
    (execOp a.eval o).run Tryd.prog w = .ok .skip (w.setCell ⟨B, i, none⟩ (.int .u8 z)) := by
  obtain ⟨c1, f1⟩ := hr.at i hi
  have hf : a.eval (.const (.int .u8 z)) = .int .u8 z := rfl
  unfold execOp
  simp only [ho, hx]
  generalize a.eval = g at *
  go_simp
theorem run_rem2 (n : Nat) (ho : o.op = .binOp .rem 5 x (.const (.int .u8 2)) 5) (hx : a.eval x = .int .u8 (bt n 0 : Int)) : (execOp a.eval o).run Tryd.prog w = .ok (.value (.int .u8 ((n % 2 : Nat) : Int))) w := by
  have e : n % 2 = bt n 0 % 2 := by unfold bt; rw [Nat.pow_zero, Nat.div_one]; omega
  rw [e]
  have h0 := bt_lt n 0
  generalize bt n 0 = b at *
  have h1 : (b : Int) < 256 := by omega
  have h2 : (0 : Int) ≤ (b : Int) := by omega
  have hf : a.eval (.const (.int .u8 2)) = .int .u8 2 := rfl
  unfold execOp
  simp only [ho, hx]
  generalize a.eval = f at *
  go_simp
  exact Int.tmod_eq_emod_of_nonneg h2
theorem run_one8 {b : Nat} {c : Bool} (ho : o.op = .binOp .eql 5 x (.const (.int .u8 1)) 5) (hx : a.eval x = .int .u8 (b : Int)) (hb : decide (b = 1) = c) :
    (execOp a.eval o).run Tryd.prog w = .ok (.value (.bool c)) w := by
  have e : ((b : Int) == 1) = c := by rw [← hb, Bool.eq_iff_iff]; simp; omega
  have hf : a.eval (.const (.int .u8 1)) = .int .u8 1 := rfl
  unfold execOp
  simp only [ho, hx]
  generalize a.eval = f at *
  go_simp
theorem run_neqN {o : Oper} {a : Act} {w : World} {x y : Operand} (m n : Nat) (hm : m < MM) (hn : n < MM) (c : Bool) (hc : decide (m = n) = !c) (ho : o.op = .binOp .neq 23 x y 23) (hx : a.eval x = .agg (bs m)) (hy : a.eval y = .agg (bs n)) :
    (execOp a.eval o).run Tryd.prog w = .ok (.value (.bool c)) w := by
  have e := run_equal_rows (P := Tryd.prog) w 9998 23 5 .u8 32 Tryd.underlying23 Tryd.underlying5 size5 (bt m) (bt n)
  rw [all_b m n hm hn, hc] at e
  have e' : (Op.equalIn 10000 23 (.agg (bs m)) (.agg (bs n))).run Tryd.prog w = .ok (!c) w := e
  clear e
  unfold execOp
  simp only [ho, hx, hy]
  generalize a.eval = f at *
  go_simp

end

set_option maxHeartbeats 1000000 in
theorem rinv_any (a : Nat) (ha : a < MM) (w : World) : Calls Tryd.prog 41 #[.agg (bs a)] w fun e w' => e = .returned (.agg (bs (a ^ (PP - 2) % PP))) ∧ Below w.heap.size w w' := by
  have HA := Lib.hid ha
  clear ha
  go_enter Tryd.func41, Tryd.ntmps41
  have hbel0 := Below.refl w.heap.size w
  go_step
  go_step
  go_step
  refine lst (wanted_none rfl) (w_alloc (c := bs a) (T := 23) 1 rfl (run_box rfl rfl) (fun w1 he2 => ?_))
  have k3 := Blk.new he2
  have hg4 : w.heap.size ≤ w.heap.size := hbel0.size
  have hbel5 := bel_alloc hbel0 he2
  simp only [nz1, nz2, nz3]
  refine lst (wanted_none rfl) (w_alloc (c := bs 0) (T := 23) 2 rfl (run_alN rfl) (fun w6 he7 => ?_))
  have hne9 : w.heap.size ≠ w1.heap.size := Nat.ne_of_lt k3.lt
  have k8 := k3.alloc he7
  have k10 := Blk.new he7
  have hg11 : w.heap.size ≤ w1.heap.size := hbel5.size
  have hbel12 := bel_alloc hbel5 he7
  simp only [nz1, nz2, nz3]
  go_step
  go_step
  go_step
  go_step
  have k13 := k8.drew
  have k14 := k10.drew
  have hbel15 := hbel12.drew
  refine wp_region_held_drew (S := fun w' => Blk w' (w.heap.size) (bs a) 23) (by kernel_rfl) k13 (fun _ => ?_)
  generalize w6.drew = wd16 at *
  refine tk 0 3 (.agg (bs a)) rfl rfl (fun _ hw => run_row rfl rfl hw Tryd.underlying23 rfl (by rw [bs_sz]; exact info_b)) k13 ?_
  simp only [nz1, nz2, nz3]
  refine tk 2 5 (.agg (bs 2)) rfl rfl (fun _ hw => by unfold execOp; go_simp; rfl) k13 ?_
  simp only [nz1, nz2, nz3]
  refine one_ready 1 (by kernel_rfl) ?_
  refine opd rfl (wanted_none rfl) (w_enter 4 (.agg (bs PP)) rfl (run_rorder rfl) (rorder_any _) (fun w17 hb18 => ?_))
  have k19 := k13.call hb18
  have k20 := k14.call hb18
  have hbel21 := bel_call hbel15 hb18
  refine ⟨k19, ?_⟩
  simp only [nz1, nz2, nz3]
  refine one_ready 3 (by kernel_rfl) ?_
  refine opd rfl (wanted_none rfl) (w_enter 6 (.agg (bs (PP - 2))) rfl (run_rless rfl rfl rfl) (rless_ge PP 2 ⟨by decide, by decide⟩ _) (fun w22 hb23 => ?_))
  have k24 := k19.call hb23
  have k25 := k20.call hb23
  have hbel26 := bel_call hbel21 hb23
  refine ⟨k24, ?_⟩
  simp only [nz1, nz2, nz3]
  refine one_ready 4 (by kernel_rfl) ?_
  refine opd rfl (wanted_none rfl) (w_enter 7 (.agg (bs (a ^ (PP - 2) % PP))) rfl (run_rPower rfl rfl rfl) (rpower_any a (PP - 2) HA.out (by decide) _) (fun w27 hb28 => ?_))
  have k29 := k24.call hb28
  have k30 := k25.call hb28
  have hbel31 := bel_call hbel26 hb28
  refine ⟨k29, ?_⟩
  simp only [nz1, nz2, nz3]
  refine one_ready 5 (by kernel_rfl) ?_
  refine opd rfl (wanted_none rfl) (w_store 23 _ _ (w1.heap.size) (bs (a ^ (PP - 2) % PP)) rfl rfl rfl rfl k30 (by rw [bs_sz]; exact info_b) ((bs_sz _).trans (bs_sz _).symm) (bs_one _) (fun w32 he33 => ?_))
  have k34 := k29.other hne9 he33
  have k35 := k30.set he33
  have hbel36 := bel_set hbel31 hg11 he33
  refine ⟨k34, ?_⟩
  refine wpAnyH_done (by kernel_rfl) ?_ _
  go_step
  go_step
  go_wp2
  refine bodyPost_ret (v := .agg (bs (a ^ (PP - 2) % PP))) (results_cell_row rfl _ _ (w1.heap.size) 23 _ (0, 0) _ rfl k35 Tryd.underlying23 rfl (by rw [bs_sz]; exact info_b)) rfl ⟨rfl, hbel36⟩

end Go.Proofs.YtfpphinnngblgaaDoor.Fld

namespace Go.Proofs.YtfpphinnngblgaaDoor.Fld
open Go.RowKit Go.Lib
open Go.Proofs.YtfpphinnngblgaaDoor.Num (val up val_congr val_add val_lt val_up val_digits val_word)
open Go.Proofs.YtfpphinnngblgaaDoor.Arr Go.Proofs.YtfpphinnngblgaaDoor.Sym Go.Proofs.YtfpphinnngblgaaDoor.Sx

theorem rmul_f (a b : Nat) (ha : a < MM) (hb : b < MM) (w : World) : Calls Tryd.prog 36 #[.agg (bs a), .agg (bs b)] w (fun e w' => e = .returned (.agg (bs (fM a b))) ∧ Below w.heap.size w w') := rmul_any a b ha hb w
theorem radd_f (a b : Nat) (ha : a < MM) (hb : b < MM) (w : World) : Calls Tryd.prog 38 #[.agg (bs a), .agg (bs b)] w (fun e w' => e = .returned (.agg (bs (fA a b))) ∧ Below w.heap.size w w') := radd_any a b ha hb w
theorem rsub_f (a b : Nat) (ha : a < MM) (hb : b < MM) (w : World) : Calls Tryd.prog 37 #[.agg (bs a), .agg (bs b)] w (fun e w' => e = .returned (.agg (bs (fS a b))) ∧ Below w.heap.size w w') := by
  have h := rsub_any a b ha hb w
  rw [show (a + ((PP - (b % PP)) % PP)) % PP = fS a b by unfold fS PP; omega] at h
  exact h
theorem rneg_f (a : Nat) (ha : a < MM) (w : World) : Calls Tryd.prog 42 #[.agg (bs a)] w (fun e w' => e = .returned (.agg (bs (fN a))) ∧ Below w.heap.size w w') := rneg_any a ha w
theorem rreduce_f (a : Nat) (ha : a < MM) (w : World) : Calls Tryd.prog 44 #[.agg (bs a)] w (fun e w' => e = .returned (.agg (bs (fR a))) ∧ Below w.heap.size w w') := rreduce_any a ha w
theorem rinv_f (a : Nat) (ha : a < MM) (w : World) : Calls Tryd.prog 41 #[.agg (bs a)] w (fun e w' => e = .returned (.agg (bs (fI a))) ∧ Below w.heap.size w w') := rinv_any a ha w
set_option maxHeartbeats 1000000 in
set_option maxRecDepth 100000 in
theorem factor_any  (w : World) : Calls Tryd.prog 39 #[] w (fun e w' => e = .returned (.agg (bs dN)) ∧ Below w.heap.size w w') := by
  go_enter Tryd.func39, Tryd.ntmps39
  have hm0 := Mm.nil w
  refine wp_seq_k (fun K1 hK1 => ?_)
  refine wp_region_lit ?_
  refine lst (wanted_none rfl) (m_alloc (c := bs 0) (T := 23) hm0 0 rfl (run_alN rfl) (fun g2 w3 (hm4 : Mm w w3 [(g2, bs 0, 23)]) => ?_))
  simp only [nz1, nz2]
  refine wpList_nil ?_
  refine then_n (hK1 _ _ ?_)
  refine wp_seq_k (fun K5 hK5 => ?_)
  refine wp_region_lit ?_
  refine lv 1 (.agg (bs dN)) rfl rfl (by unfold execOp; go_simp; rfl) ?_
  simp only [nz1, nz2, nz3]
  refine lst (wanted_none rfl) (m_store 0 23 _ _ (bs dN) (old := bs 0) hm4 rfl rfl rfl rfl rfl (by rw [bs_sz]; exact info_b) ((bs_sz _).trans (bs_sz _).symm) (bs_one _) (fun w6 (hm7 : Mm w w6 [(g2, bs dN, 23)]) => ?_))
  refine wpList_nil ?_
  refine then_n (hK5 _ _ ?_)
  refine wp_ret ?_
  exact ⟨rfl, .agg (bs dN), res_c rfl rfl (hm7.at 0 rfl) Tryd.underlying23 rfl (by rw [bs_sz]; exact info_b), ⟨rfl, hm7.below⟩⟩
theorem rinv_g (a i : Nat) (ha : a < MM) (h : fI a = i) (w : World) : Calls Tryd.prog 41 #[.agg (bs a)] w (fun e w' => e = .returned (.agg (bs i)) ∧ Below w.heap.size w w') := by
  rw [← h]; exact rinv_f a ha w
theorem rmul_g (a b c : Nat) (ha : a < MM) (hb : b < MM) (h : fM a b = c) (w : World) : Calls Tryd.prog 36 #[.agg (bs a), .agg (bs b)] w (fun e w' => e = .returned (.agg (bs c)) ∧ Below w.heap.size w w') := by
  rw [← h]; exact rmul_f a b ha hb w
end Go.Proofs.YtfpphinnngblgaaDoor.Fld
