import Derived.Test.YtnmaaijeamlplaaDoorRfB
import Derived.Test.YtnmaaijeamlplaaDoorReR
import Derived.Test.YtnmaaijeamlplaaDoorRefC
set_option linter.unusedVariables false
set_option linter.unusedSimpArgs false
set_option maxHeartbeats 4000000
set_option maxRecDepth 100000
namespace Go.Proofs.YtnmaaijeamlplaaDoor.Bk
open Go.RowKit
open Go.Proofs.YtnmaaijeamlplaaDoor.Sym Go.Proofs.YtnmaaijeamlplaaDoor.Mem
open Go.Proofs.YtnmaaijeamlplaaDoor.Sx hiding Mm m_alloc m_store m_call m_callx
attribute [local irreducible] right_m rright_m ready_m rready_m copied_m burn_m put_m get_m flush_m spent_m rput_m rget_m rflush_m blank_m rnew_m same_m
attribute [local irreducible] number_m value_m fill_m beginning_m log_m fits_m lists_m epoch_m
attribute [local irreducible] home_m putall_m
attribute [local irreducible] putfl_m body_m rise_m sized_m current_m join_m sum_m
attribute [local irreducible] format_m rend_m bring_m
attribute [local irreducible] commit_m
attribute [local irreducible] rlog_m four_m eight_m rread_m rfull_m
attribute [local irreducible] rhead_m rlists_m rfits_m repoch_m rbody_m
attribute [local irreducible] wpList Oper.wp
def done_m_b0 (epoch : Int) (n : Int) (l : List (List UInt8)) (rec : (List UInt8) × Nat → Sum ((List UInt8) × Nat) ((List UInt8))) (x5 : List UInt8) (x6 : Nat) : Sum ((List UInt8) × Nat) ((List UInt8)) :=
 if x6 < l.length then
  rec ((x5 ++ (l.getD x6 [])), (x6 + 1))
 else
  .inl (x5, x6)
def done_m_l0 (epoch : Int) (n : Int) (l : List (List UInt8)) : Nat → (List UInt8) × Nat → Sum ((List UInt8) × Nat) ((List UInt8))
 | 0, zz => .inl zz
 | nq + 1, zz => done_m_b0 epoch n l (done_m_l0 epoch n l nq) zz.1 zz.2
def done_m_k0 (epoch : Int) (n : Int) (l : List (List UInt8)) (y10 : List UInt8) (y11 : Nat) : (List UInt8) :=
 (rfull_m ((([68, 79, 78, 69] ++ (eight_m epoch)) ++ (four_m n)) ++ (sum_m y10)))
def done_m (epoch : Int) (n : Int) (l : List (List UInt8)) : (List UInt8) :=
 fin (done_m_l0 epoch n l ((l.length - 0) + 1) (([]), 0)) (fun r => r) (fun zz => done_m_k0 epoch n l zz.1 zz.2)
theorem done_any (epoch : Int) (n : Int) (l : List (List UInt8)) (lv0 : Value) (w : World) (hl : Rs eS 1 l lv0 w) (hT : Laid2 w) (hp0 : l.length ≤ 900) (hp1 : ∀ s ∈ l, s.length = 256) : Calls Tryd.prog 52 #[J (epoch), J (n), lv0] w (fun e w' => e = .returned (.string (tx (done_m epoch n l))) ∧ Below w.heap.size w w') := by
 go_enter Tryd.func52, Tryd.ntmps52
 have hm00 := Mm.nil none (fun _ => True) w
 obtain ⟨Fl, hm01⟩ : ∃ Fl, Mm none (fun _ => True) w w [.see (Rs eS 1 l lv0) Fl] := hm00.come (Rs.all hl)
 have hm0 := hm01
 refine wk (fun K1 hK1 => (wq ?_))
 refine la 6 (.string (tx ([]))) ?_
 simp only [nz]
 refine wn (tj (hK1 _ _ (wk (fun K2 hK2 => (wq ?_)))))
 refine la 7 (.string (tx ([]))) ?_
 simp only [nz]
 refine wn (tj (hK2 _ _ (wk (fun K3 hK3 => (wk (fun K4 hK4 => (wq ?_)))))))
 refine la 8 (J 0) ?_
 simp only [nz]
 refine wn (tj (hK4 _ _ ?_))
 refine wp_cutK (fun a' w' => ∃ (y10 : List UInt8) (y11 : Nat) (yu0 : Nat → Value), done_m_l0 epoch n l ((l.length - 0) + 1) (([]), 0) = .inl (y10, y11) ∧ (y10.length = 256 * y11 ∧ y11 ≤ l.length) ∧ a' = ⟨#[J (epoch), J (n), lv0, undef, undef, undef, .string (tx ([])), .string (tx y10), J (y11 : Int), yu0 0, yu0 1, yu0 2, yu0 3, yu0 4, yu0 5, yu0 6, yu0 7, yu0 8, yu0 9, yu0 10, yu0 11, undef, undef, undef, undef, undef, undef, undef, undef, undef, undef], []⟩ ∧ Mm none (fun _ => True) w w' [.see (Rs eS 1 l lv0) Fl]) ?_ ?_
 ·refine wp_block ?_
  refine wp_loop_n (fun n' a' w' => ∃ (n7 : Nat) (x5 : List UInt8) (x6 : Nat) (u0 : Nat → Value), n' = n7 ∧ (l.length - x6) < n7 ∧ done_m_l0 epoch n l ((l.length - 0) + 1) (([]), 0) = done_m_l0 epoch n l n7 (x5, x6) ∧ (x5.length = 256 * x6 ∧ x6 ≤ l.length) ∧ a' = ⟨#[J (epoch), J (n), lv0, undef, undef, undef, .string (tx ([])), .string (tx x5), J (x6 : Int), u0 0, u0 1, u0 2, u0 3, u0 4, u0 5, u0 6, u0 7, u0 8, u0 9, u0 10, u0 11, undef, undef, undef, undef, undef, undef, undef, undef, undef, undef], []⟩ ∧ Mm none (fun _ => True) w w' [.see (Rs eS 1 l lv0) Fl]) ⟨((l.length - 0) + 1), ([]), 0, (fun qq => List.getD [undef, undef, undef, undef, undef, undef, undef, undef, undef, undef, undef, undef] qq undef), rfl, Nat.lt_succ_self _, rfl, (by simp), rfl, hm0⟩ ?_
  rintro n7 _ w13 ⟨_, x5, x6, u0, rfl, hl17, hi9, hdn, rfl, hm14⟩ R15 hR15
  obtain ⟨k8, rfl⟩ : ∃ k, n7 = k + 1 := ⟨n7 - 1, by omega⟩
  refine wk (fun K18 hK18 => (wk (fun K19 hK19 => (wq ?_))))
  refine lm 9 (J (x6 : Int)) ?_
  refine lm 10 (lv0) ?_
  refine lw 11 (J (l.length : Int)) (s_len ((hm14.see 0 rfl)) rfl Tryd.underlying22 rfl) ?_
  simp only [nz]
  refine lw 12 (.bool (decide (x6 < l.length))) (r_lss x6 l.length rfl rfl rfl) ?_
  simp only [nz]
  refine wn (tj (hK19 _ _ ?_))
  refine cond_d (x6 < l.length) rfl (fun hc20 => ?_) (fun hc20 => ?_)
  rotate_left
  ·refine wp_exit (then_x (then_x (blk_x ?_)))
   refine tj ?_
   exact ⟨x5, x6, (fun qq => List.getD [J (x6 : Int), lv0, J (l.length : Int), .bool (decide (x6 < l.length)), u0 4, u0 5, u0 6, u0 7, u0 8, u0 9, u0 10, u0 11] qq undef), (hi9.trans (show done_m_b0 epoch n l (done_m_l0 epoch n l k8) x5 x6 = .inl (x5, x6) from by unfold done_m_b0; rw [if_neg hc20] <;> rfl)), (by omega), rfl, hm14⟩
  refine wp_skip (tj (hK18 _ _ (wk (fun K21 hK21 => ?_))))
  refine wp_block ?_
  refine wq ?_
  refine lm 15 (.string (tx x5)) ?_
  refine lm 16 (lv0) ?_
  refine lm 17 (J (x6 : Int)) ?_
  simp only [nz]
  refine lw 18 (.pointer (some ⟨(bk lv0), (po lv0 + x6 * 1), none⟩)) (r_ixv ((hm14.see 0 rfl)) x6 (by omega) Tryd.underlying22 sz_9 rfl rfl rfl) ?_
  refine lw 19 (.string (tx (l.getD x6 []))) (r_cellw (Rs.cell ((hm14.see 0 rfl)) eS_len [] x6 (by omega) 0 _ rfl) Tryd.underlying9 rfl rfl rfl) ?_
  refine lw 20 (.string (tx (x5 ++ (l.getD x6 [])))) (t_cat x5 (l.getD x6 []) (by have hz := at_of (l := l) (by assumption) x6 (by omega); omega) rfl rfl rfl) ?_
  simp only [nz]
  refine la 7 (.string (tx (x5 ++ (l.getD x6 [])))) ?_
  simp only [nz]
  refine wn (blk_n (tj (hK21 _ _ (wq ?_))))
  refine lm 13 (J (x6 : Int)) ?_
  refine lw 14 (J (((x6 + 1) : Nat) : Int)) (r_add x6 1 (show (x6 + 1) < 9223372036854775808 from by omega) rfl rfl rfl) ?_
  refine la 8 (J (((x6 + 1) : Nat) : Int)) ?_
  simp only [nz]
  refine wn ?_
  refine tj (hR15 _ _ _ ⟨k8, (x5 ++ (l.getD x6 [])), (x6 + 1), (fun qq => List.getD [J (x6 : Int), lv0, J (l.length : Int), .bool (decide (x6 < l.length)), J (x6 : Int), J (((x6 + 1) : Nat) : Int), .string (tx x5), lv0, J (x6 : Int), .pointer (some ⟨(bk lv0), (po lv0 + x6 * 1), none⟩), .string (tx (l.getD x6 [])), .string (tx (x5 ++ (l.getD x6 [])))] qq undef), rfl, (by omega), (hi9.trans (show done_m_b0 epoch n l (done_m_l0 epoch n l k8) x5 x6 = done_m_l0 epoch n l k8 ((x5 ++ (l.getD x6 [])), (x6 + 1)) from by unfold done_m_b0; rw [if_pos hc20] <;> rfl)), (by have hz := at_of (l := l) (by assumption) x6 (by omega); first | omega | (rw [List.length_append]; omega)), rfl, hm14⟩ ?_)
  omega
 rintro _ w22 ⟨y10, y11, yu0, hx12, hdn, rfl, hm23⟩
 have hq24 : done_m epoch n l = done_m_k0 epoch n l y10 y11 := (show done_m epoch n l = done_m_k0 epoch n l y10 y11 from by unfold done_m; rw [hx12] <;> rfl)
 refine tj (hK3 _ _ (wk (fun K25 hK25 => (wq ?_))))
 refine lm 21 (J (epoch)) ?_
 simp only [nz]
 refine lst rfl (m_call hm23 22 (.string (tx (eight_m epoch))) rfl (run_eight rfl rfl) (eight_any epoch  _  ) (fun w26 hm27 => ?_))
 have hf28 : (eight_m epoch).length = 8 := eight_len epoch
 simp only [nz]
 refine lw 23 (.string (tx ([68, 79, 78, 69] ++ (eight_m epoch)))) (t_cat ([68, 79, 78, 69]) (eight_m epoch) (by simp only [List.length_append, List.length_cons, List.length_nil] at *; omega) rfl rfl rfl) ?_
 refine lm 24 (J (n)) ?_
 simp only [nz]
 refine lst rfl (m_call hm27 25 (.string (tx (four_m n))) rfl (run_four rfl rfl) (four_any n  _  ) (fun w29 hm30 => ?_))
 have hf31 : (four_m n).length = 4 := four_len n
 simp only [nz]
 refine lw 26 (.string (tx (([68, 79, 78, 69] ++ (eight_m epoch)) ++ (four_m n)))) (t_cat ([68, 79, 78, 69] ++ (eight_m epoch)) (four_m n) (by simp only [List.length_append, List.length_cons, List.length_nil] at *; omega) rfl rfl rfl) ?_
 refine lm 27 (.string (tx y10)) ?_
 simp only [nz]
 refine lst rfl (m_call hm30 28 (.string (tx (sum_m y10))) rfl (run_rdsum rfl rfl) (rdsum_any y10  _  (Laid2.below hT hm30.below) (by omega)) (fun w32 hm33 => ?_))
 have hf34 : (sum_m y10).length = 32 := sum_len y10
 simp only [nz]
 refine lw 29 (.string (tx ((([68, 79, 78, 69] ++ (eight_m epoch)) ++ (four_m n)) ++ (sum_m y10)))) (t_cat (([68, 79, 78, 69] ++ (eight_m epoch)) ++ (four_m n)) (sum_m y10) (by simp only [List.length_append, List.length_cons, List.length_nil] at *; omega) rfl rfl rfl) ?_
 simp only [nz]
 refine lst rfl (m_call hm33 30 (.string (tx (rfull_m ((([68, 79, 78, 69] ++ (eight_m epoch)) ++ (four_m n)) ++ (sum_m y10))))) rfl (run_rfull rfl rfl) (rfull_any ((([68, 79, 78, 69] ++ (eight_m epoch)) ++ (four_m n)) ++ (sum_m y10))  _  (by simp; omega)) (fun w35 hm36 => ?_))
 have hf37 : (rfull_m ((([68, 79, 78, 69] ++ (eight_m epoch)) ++ (four_m n)) ++ (sum_m y10))).length = 256 := rfull_len ((([68, 79, 78, 69] ++ (eight_m epoch)) ++ (four_m n)) ++ (sum_m y10)) (by simp; omega)
 simp only [nz]
 refine la 6 (.string (tx (rfull_m ((([68, 79, 78, 69] ++ (eight_m epoch)) ++ (four_m n)) ++ (sum_m y10))))) ?_
 simp only [nz]
 refine wn (tj (hK25 _ _ (wp_ret ?_)))
 have he38 : done_m epoch n l = (rfull_m ((([68, 79, 78, 69] ++ (eight_m epoch)) ++ (four_m n)) ++ (sum_m y10))) := (hq24.trans (show done_m_k0 epoch n l y10 y11 = (rfull_m ((([68, 79, 78, 69] ++ (eight_m epoch)) ++ (four_m n)) ++ (sum_m y10))) from by unfold done_m_k0; rfl))
 exact ⟨rfl, .string (tx (rfull_m ((([68, 79, 78, 69] ++ (eight_m epoch)) ++ (four_m n)) ++ (sum_m y10)))), res_t rfl rfl, ⟨by (rw [he38]; try rfl), hm36.below⟩⟩
theorem run_done {o : Oper} {a : Act} {w : World} {x0 x1 x2 : Operand} {v0 v1 v2 : Value} (ho : o.op = .call { callee := .value (.func 52), args := #[x0, x1, x2], argTypes := #[3, 3, 22] }) (h0 : a.eval x0 = v0) (h1 : a.eval x1 = v1) (h2 : a.eval x2 = v2) :
  (execOp a.eval o).run Tryd.prog w = .ok (.enter 52 #[v0, v1, v2]) w := by
 unfold execOp
 simp only [ho]
 have hf : a.eval (.func 52) = .func (.func 52) #[] #[] := rfl
 generalize a.eval = f at *
 go_simp
def rall_m_b0 (d : Dk) (at_ : Int) (l : List (List UInt8)) (rec : Nat × (List (List UInt8)) × (List Wr) × Int × Bool × (List (List UInt8)) × (List Wr) × Nat × Bool → Sum (Nat × (List (List UInt8)) × (List Wr) × Int × Bool × (List (List UInt8)) × (List Wr) × Nat × Bool) (Dk × Int)) (x10 : Nat) (l11 : List (List UInt8)) (l15 : List Wr) (x19 : Int) (x20 : Bool) (l21 : List (List UInt8)) (l25 : List Wr) (x29 : Nat) (x30 : Bool) : Sum (Nat × (List (List UInt8)) × (List Wr) × Int × Bool × (List (List UInt8)) × (List Wr) × Nat × Bool) (Dk × Int) :=
 if x10 < l.length then
  if ¬ (rput_m (Dk.mk l11 l15 x19 x20) (at_ + ((x10 : Nat) : Int)) (l.getD x10 [])).2 = 0 then
   .inr (((rput_m (Dk.mk l11 l15 x19 x20) (at_ + ((x10 : Nat) : Int)) (l.getD x10 [])).1), (rput_m (Dk.mk l11 l15 x19 x20) (at_ + ((x10 : Nat) : Int)) (l.getD x10 [])).2)
  else
   rec ((x10 + 1), (((rput_m (Dk.mk l11 l15 x19 x20) (at_ + ((x10 : Nat) : Int)) (l.getD x10 [])).1).safe), (((rput_m (Dk.mk l11 l15 x19 x20) (at_ + ((x10 : Nat) : Int)) (l.getD x10 [])).1).loose), ((rput_m (Dk.mk l11 l15 x19 x20) (at_ + ((x10 : Nat) : Int)) (l.getD x10 [])).1).fuse, (((rput_m (Dk.mk l11 l15 x19 x20) (at_ + ((x10 : Nat) : Int)) (l.getD x10 [])).1).down), l21, l25, x29, x30)
 else
  .inl (x10, l11, l15, x19, x20, l21, l25, x29, x30)
def rall_m_l0 (d : Dk) (at_ : Int) (l : List (List UInt8)) : Nat → Nat × (List (List UInt8)) × (List Wr) × Int × Bool × (List (List UInt8)) × (List Wr) × Nat × Bool → Sum (Nat × (List (List UInt8)) × (List Wr) × Int × Bool × (List (List UInt8)) × (List Wr) × Nat × Bool) (Dk × Int)
 | 0, zz => .inl zz
 | nq + 1, zz => rall_m_b0 d at_ l (rall_m_l0 d at_ l nq) zz.1 zz.2.1 zz.2.2.1 zz.2.2.2.1 zz.2.2.2.2.1 zz.2.2.2.2.2.1 zz.2.2.2.2.2.2.1 zz.2.2.2.2.2.2.2.1 zz.2.2.2.2.2.2.2.2
def rall_m_k0 (d : Dk) (at_ : Int) (l : List (List UInt8)) (y46 : Nat) (y47 : List (List UInt8)) (y50 : List Wr) (y53 : Int) (y54 : Bool) (y55 : List (List UInt8)) (y58 : List Wr) (y61 : Nat) (y62 : Bool) : Dk × Int :=
 (((rflush_m (Dk.mk y47 y50 y53 y54)).1), (rflush_m (Dk.mk y47 y50 y53 y54)).2)
def rall_m (d : Dk) (at_ : Int) (l : List (List UInt8)) : Dk × Int :=
 fin (rall_m_l0 d at_ l ((l.length - 0) + 1) (0, d.safe, d.loose, d.fuse, d.down, ([] : List (List UInt8)), ([] : List Wr), 0, false)) (fun r => r) (fun zz => rall_m_k0 d at_ l zz.1 zz.2.1 zz.2.2.1 zz.2.2.2.1 zz.2.2.2.2.1 zz.2.2.2.2.2.1 zz.2.2.2.2.2.2.1 zz.2.2.2.2.2.2.2.1 zz.2.2.2.2.2.2.2.2)
theorem rall_any (d : Dk) (at_ : Int) (l : List (List UInt8)) (dv0 : Value) (dv1 : Value) (lv0 : Value) (S : Nat → Prop) (w : World) (hd : From S (DkR d dv0 dv1) w) (hl : From S (Rs eS 1 l lv0) w) (hp0 : d.safe.length ≤ 8796093021952) (hp1 : d.loose.length ≤ 5864065000000) (hp2 : d.fuse ≤ 9223372036854775807) (hp3 : l.length ≤ 100000) (hp4 : -1000000 ≤ at_) (hp5 : at_ ≤ 1000000) : Calls Tryd.prog 43 #[.agg #[dv0, dv1, J (d.fuse), .bool (d.down)], J (at_), lv0] w (fun e w' => (∃ v, e = .returned v ∧ ∃ (o0 : Value) (o1 : Value), v = .tuple #[.agg #[o0, o1, J (((rall_m d at_ l).1).fuse), .bool (((rall_m d at_ l).1).down)], J ((rall_m d at_ l).2)] ∧ Gives w w' S (DkR ((rall_m d at_ l).1) o0 o1)) ∧ Below w.heap.size w w') := by
 go_enter Tryd.func43, Tryd.ntmps43
 have hm00 := Mm.nil none S w
 obtain ⟨Fd, hm01⟩ := hm00.come hd
 obtain ⟨Fl, hm02⟩ := hm01.come hl
 have hm0 := hm02
 refine wk (fun K1 hK1 => (wq ?_))
 refine lst rfl (m_alloc (c := #[dv0, dv1, J (d.fuse), .bool (d.down)]) (T := 25) hm0 3 rfl (run_box rfl rfl) (fun g4 w2 hm3 => ?_))
 simp only [nz]
 refine lst rfl (m_alloc (c := #[.slice none 0 0, .slice none 0 0, J 0, .bool false]) (T := 25) hm3 6 rfl (by unfold execOp; go_simp; try rfl) (fun g7 w5 hm6 => ?_))
 simp only [nz]
 refine la 7 (J 0) ?_
 simp only [nz]
 refine wn (tj (hK1 _ _ (wk (fun K8 hK8 => (wk (fun K9 hK9 => (wq ?_)))))))
 refine la 8 (J 0) ?_
 simp only [nz]
 refine wn (tj (hK9 _ _ ?_))
 obtain ⟨F31, hm32⟩ : ∃ F31, Mm none S w w5 [.see (DkR d dv0 dv1) Fd, .see (Rs eS 1 l lv0) Fl, .blk g4 #[dv0, dv1, J (d.fuse), .bool (d.down)] 25, .blk g7 #[.slice none 0 0, .slice none 0 0, J 0, .bool false] 25, .see (Rs eS 1 d.safe dv0) F31] := hm6.derive ((hm6.from 0 rfl).mono (fun _ h => h.1))
 obtain ⟨F34, hm35⟩ : ∃ F34, Mm none S w w5 [.see (DkR d dv0 dv1) Fd, .see (Rs eS 1 l lv0) Fl, .blk g4 #[dv0, dv1, J (d.fuse), .bool (d.down)] 25, .blk g7 #[.slice none 0 0, .slice none 0 0, J 0, .bool false] 25, .see (Rs eS 1 d.safe dv0) F31, .see (Rs eWr 2 d.loose dv1) F34] := hm32.derive ((hm32.from 0 rfl).mono (fun _ h => h.2))
 obtain ⟨F37, hm38⟩ : ∃ F37, Mm none S w w5 [.see (DkR d dv0 dv1) Fd, .see (Rs eS 1 l lv0) Fl, .blk g4 #[dv0, dv1, J (d.fuse), .bool (d.down)] 25, .blk g7 #[.slice none 0 0, .slice none 0 0, J 0, .bool false] 25, .see (Rs eS 1 d.safe dv0) F31, .see (Rs eWr 2 d.loose dv1) F34, .see (Rs eS 1 ([] : List (List UInt8)) (.slice none 0 0)) F37] := hm35.derive (From.pure (fun W => Rs.nil eS 1 W))
 obtain ⟨F40, hm41⟩ : ∃ F40, Mm none S w w5 [.see (DkR d dv0 dv1) Fd, .see (Rs eS 1 l lv0) Fl, .blk g4 #[dv0, dv1, J (d.fuse), .bool (d.down)] 25, .blk g7 #[.slice none 0 0, .slice none 0 0, J 0, .bool false] 25, .see (Rs eS 1 d.safe dv0) F31, .see (Rs eWr 2 d.loose dv1) F34, .see (Rs eS 1 ([] : List (List UInt8)) (.slice none 0 0)) F37, .see (Rs eWr 2 ([] : List Wr) (.slice none 0 0)) F40] := hm38.derive (From.pure (fun W => Rs.nil eWr 2 W))
 refine wp_cutK (fun a' w' => ∃ (y46 : Nat) (y47 : List (List UInt8)) (y50 : List Wr) (y53 : Int) (y54 : Bool) (y55 : List (List UInt8)) (y58 : List Wr) (y61 : Nat) (y62 : Bool) (v48 : Value) (F49 : Nat → Prop) (v51 : Value) (F52 : Nat → Prop) (v56 : Value) (F57 : Nat → Prop) (v59 : Value) (F60 : Nat → Prop) (yu0 : Nat → Value), rall_m_l0 d at_ l ((l.length - 0) + 1) (0, d.safe, d.loose, d.fuse, d.down, ([] : List (List UInt8)), ([] : List Wr), 0, false) = .inl (y46, y47, y50, y53, y54, y55, y58, y61, y62) ∧ (y47.length = d.safe.length ∧ y50.length ≤ d.loose.length + y46 ∧ y53 ≤ 9223372036854775807 ∧ y46 ≤ l.length) ∧ a' = ⟨#[.agg #[dv0, dv1, J (d.fuse), .bool (d.down)], J (at_), lv0, Pp g4 0, undef, undef, Pp g7 0, yu0 0, J (y46 : Int), yu0 1, yu0 2, yu0 3, yu0 4, yu0 5, yu0 6, yu0 7, yu0 8, yu0 9, yu0 10, yu0 11, yu0 12, yu0 13, yu0 14, yu0 15, yu0 16, yu0 17, yu0 18, yu0 19, yu0 20, yu0 21, yu0 22, yu0 23, yu0 24, yu0 25, undef, undef, undef, undef], []⟩ ∧ Mm none S w w' [.see (DkR d dv0 dv1) Fd, .see (Rs eS 1 l lv0) Fl, .blk g4 #[v48, v51, J (y53), .bool (y54)] 25, .blk g7 #[v56, v59, J (y61 : Int), .bool (y62)] 25, .see (Rs eS 1 y47 v48) F49, .see (Rs eWr 2 y50 v51) F52, .see (Rs eS 1 y55 v56) F57, .see (Rs eWr 2 y58 v59) F60]) ?_ ?_
 ·refine wp_block ?_
  refine wp_loop_n (fun n' a' w' => ∃ (n43 : Nat) (x10 : Nat) (l11 : List (List UInt8)) (l15 : List Wr) (x19 : Int) (x20 : Bool) (l21 : List (List UInt8)) (l25 : List Wr) (x29 : Nat) (x30 : Bool) (v12 : Value) (F13 : Nat → Prop) (v16 : Value) (F17 : Nat → Prop) (v22 : Value) (F23 : Nat → Prop) (v26 : Value) (F27 : Nat → Prop) (u0 : Nat → Value), n' = n43 ∧ (l.length - x10) < n43 ∧ rall_m_l0 d at_ l ((l.length - 0) + 1) (0, d.safe, d.loose, d.fuse, d.down, ([] : List (List UInt8)), ([] : List Wr), 0, false) = rall_m_l0 d at_ l n43 (x10, l11, l15, x19, x20, l21, l25, x29, x30) ∧ (l11.length = d.safe.length ∧ l15.length ≤ d.loose.length + x10 ∧ x19 ≤ 9223372036854775807 ∧ x10 ≤ l.length) ∧ a' = ⟨#[.agg #[dv0, dv1, J (d.fuse), .bool (d.down)], J (at_), lv0, Pp g4 0, undef, undef, Pp g7 0, u0 0, J (x10 : Int), u0 1, u0 2, u0 3, u0 4, u0 5, u0 6, u0 7, u0 8, u0 9, u0 10, u0 11, u0 12, u0 13, u0 14, u0 15, u0 16, u0 17, u0 18, u0 19, u0 20, u0 21, u0 22, u0 23, u0 24, u0 25, undef, undef, undef, undef], []⟩ ∧ Mm none S w w' [.see (DkR d dv0 dv1) Fd, .see (Rs eS 1 l lv0) Fl, .blk g4 #[v12, v16, J (x19), .bool (x20)] 25, .blk g7 #[v22, v26, J (x29 : Int), .bool (x30)] 25, .see (Rs eS 1 l11 v12) F13, .see (Rs eWr 2 l15 v16) F17, .see (Rs eS 1 l21 v22) F23, .see (Rs eWr 2 l25 v26) F27]) ⟨((l.length - 0) + 1), 0, d.safe, d.loose, d.fuse, d.down, ([] : List (List UInt8)), ([] : List Wr), 0, false, dv0, F31, dv1, F34, .slice none 0 0, F37, .slice none 0 0, F40, (fun qq => bif Nat.blt qq 24 then List.getD [J 0, undef, undef, undef, undef, undef, undef, undef, undef, undef, undef, undef, undef, undef, undef, undef, undef, undef, undef, undef, undef, undef, undef, undef] qq undef else List.getD [undef, undef] (qq - 24) undef), rfl, Nat.lt_succ_self _, rfl, (by omega), rfl, hm41⟩ ?_
  rintro n43 _ w64 ⟨_, x10, l11, l15, x19, x20, l21, l25, x29, x30, v12, F13, v16, F17, v22, F23, v26, F27, u0, rfl, hl68, hi45, hpa, rfl, hm65⟩ R66 hR66
  obtain ⟨k44, rfl⟩ : ∃ k, n43 = k + 1 := ⟨n43 - 1, by omega⟩
  refine wk (fun K69 hK69 => (wk (fun K70 hK70 => (wq ?_))))
  refine lm 11 (J (x10 : Int)) ?_
  refine lm 12 (lv0) ?_
  refine lw 13 (J (l.length : Int)) (s_len ((hm65.see 1 rfl)) rfl Tryd.underlying22 rfl) ?_
  simp only [nz]
  refine lw 14 (.bool (decide (x10 < l.length))) (r_lss x10 l.length rfl rfl rfl) ?_
  simp only [nz]
  refine wn (tj (hK70 _ _ ?_))
  refine cond_d (x10 < l.length) rfl (fun hc71 => ?_) (fun hc71 => ?_)
  rotate_left
  ·refine wp_exit (then_x (then_x (blk_x ?_)))
   refine tj ?_
   obtain ⟨F149, hm150⟩ := hm65.derive (hm65.from 4 rfl)
   obtain ⟨F152, hm153⟩ := hm150.derive (hm150.from 5 rfl)
   obtain ⟨F155, hm156⟩ := hm153.derive (hm153.from 6 rfl)
   obtain ⟨F158, hm159⟩ := hm156.derive (hm156.from 7 rfl)
   exact ⟨x10, l11, l15, x19, x20, l21, l25, x29, x30, v12, F149, v16, F152, v22, F155, v26, F158, (fun qq => bif Nat.blt qq 24 then List.getD [u0 0, u0 1, u0 2, J (x10 : Int), lv0, J (l.length : Int), .bool (decide (x10 < l.length)), u0 7, u0 8, u0 9, u0 10, u0 11, u0 12, u0 13, u0 14, u0 15, u0 16, u0 17, u0 18, u0 19, u0 20, u0 21, u0 22, u0 23] qq undef else List.getD [u0 24, u0 25] (qq - 24) undef), (hi45.trans (show rall_m_b0 d at_ l (rall_m_l0 d at_ l k44) x10 l11 l15 x19 x20 l21 l25 x29 x30 = .inl (x10, l11, l15, x19, x20, l21, l25, x29, x30) from by unfold rall_m_b0; rw [if_neg hc71] <;> rfl)), (by omega), rfl, (Mm.reorder hm159 [0, 1, 2, 3, 8, 9, 10, 11] (by decide) rfl)⟩
  refine wp_skip (tj (hK69 _ _ (wk (fun K72 hK72 => ?_))))
  refine wp_block ?_
  refine wk (fun K73 hK73 => ?_)
  refine wp_mono (Q := fun e a' w' => e = Exit.normal ∧ ∃ (v78 : Value) (v79 : Value) (F81 : Nat → Prop) (g92 : Nat), a' = ⟨#[.agg #[dv0, dv1, J (d.fuse), .bool (d.down)], J (at_), lv0, Pp g4 0, undef, undef, Pp g7 0, u0 0, J (x10 : Int), Pp g92 0, J ((rput_m (Dk.mk l11 l15 x19 x20) (at_ + (x10 : Int)) (l.getD x10 [])).2), J (x10 : Int), lv0, J (l.length : Int), .bool (decide (x10 < l.length)), u0 7, u0 8, .tuple #[.agg #[v78, v79, J (((rput_m (Dk.mk l11 l15 x19 x20) (at_ + (x10 : Int)) (l.getD x10 [])).1).fuse), .bool (((rput_m (Dk.mk l11 l15 x19 x20) (at_ + (x10 : Int)) (l.getD x10 [])).1).down)], J ((rput_m (Dk.mk l11 l15 x19 x20) (at_ + (x10 : Int)) (l.getD x10 [])).2)], .agg #[v12, v16, J (x19), .bool (x20)], J (at_), J (x10 : Int), J ((at_ + (x10 : Int))), lv0, J (x10 : Int), .pointer (some ⟨(bk lv0), (po lv0 + x10 * 1), none⟩), .string (tx (l.getD x10 [])), .tuple #[.agg #[v78, v79, J (((rput_m (Dk.mk l11 l15 x19 x20) (at_ + (x10 : Int)) (l.getD x10 [])).1).fuse), .bool (((rput_m (Dk.mk l11 l15 x19 x20) (at_ + (x10 : Int)) (l.getD x10 [])).1).down)], J ((rput_m (Dk.mk l11 l15 x19 x20) (at_ + (x10 : Int)) (l.getD x10 [])).2)], .agg #[v78, v79, J (((rput_m (Dk.mk l11 l15 x19 x20) (at_ + (x10 : Int)) (l.getD x10 [])).1).fuse), .bool (((rput_m (Dk.mk l11 l15 x19 x20) (at_ + (x10 : Int)) (l.getD x10 [])).1).down)], J ((rput_m (Dk.mk l11 l15 x19 x20) (at_ + (x10 : Int)) (l.getD x10 [])).2), u0 21, u0 22, u0 23, u0 24, u0 25, undef, undef, undef, undef], []⟩ ∧ Mm none S w w' [.see (DkR d dv0 dv1) Fd, .see (Rs eS 1 l lv0) Fl, .blk g4 #[v12, v16, J (x19), .bool (x20)] 25, .blk g7 #[v22, v26, J (x29 : Int), .bool (x30)] 25, .see (Rs eS 1 l11 v12) F13, .see (Rs eWr 2 l15 v16) F17, .see (Rs eS 1 l21 v22) F23, .see (Rs eWr 2 l25 v26) F27, .see (DkR ((rput_m (Dk.mk l11 l15 x19 x20) (at_ + (x10 : Int)) (l.getD x10 [])).1) v78 v79) F81, .blk g92 #[v78, v79, J (((rput_m (Dk.mk l11 l15 x19 x20) (at_ + (x10 : Int)) (l.getD x10 [])).1).fuse), .bool (((rput_m (Dk.mk l11 l15 x19 x20) (at_ + (x10 : Int)) (l.getD x10 [])).1).down)] 25]) ?_ ?_
  ·have hm74 := hm65.drew
   refine wp_region_held_drew (S := fun w' => Mem.Blk w' g4 (#[v12, v16, J (x19), .bool (x20)]) 25 ∧ Rs eS 1 l lv0 w') (by kernel_rfl) (⟨hm74.at 2 rfl, ((hm74.see 1 rfl))⟩) (fun _ => ?_)
   generalize w64.drew = w75 at *
   refine tn 0 18 (.agg #[v12, v16, J (x19), .bool (x20)]) rfl rfl (fun _ hw => r_whole hw.1 Tryd.underlying25 rfl (by exact sz_25) rfl rfl) (⟨hm74.at 2 rfl, ((hm74.see 1 rfl))⟩) ?_
   simp only [nz]
   refine tn 1 19 (J (at_)) rfl rfl (fun _ hw => run_mv rfl rfl) (⟨hm74.at 2 rfl, ((hm74.see 1 rfl))⟩) ?_
   simp only [nz]
   refine tn 2 20 (J (x10 : Int)) rfl rfl (fun _ hw => run_mv rfl rfl) (⟨hm74.at 2 rfl, ((hm74.see 1 rfl))⟩) ?_
   simp only [nz]
   refine tn 3 21 (J ((at_ + (x10 : Int)))) rfl rfl (fun _ hw => z_add at_ (x10 : Int) _ (by rw [IntKind.wrap_i64]; omega) rfl rfl rfl) (⟨hm74.at 2 rfl, ((hm74.see 1 rfl))⟩) ?_
   simp only [nz]
   refine tn 4 22 (lv0) rfl rfl (fun _ hw => run_mv rfl rfl) (⟨hm74.at 2 rfl, ((hm74.see 1 rfl))⟩) ?_
   simp only [nz]
   refine tn 5 23 (J (x10 : Int)) rfl rfl (fun _ hw => run_mv rfl rfl) (⟨hm74.at 2 rfl, ((hm74.see 1 rfl))⟩) ?_
   simp only [nz]
   refine tn 6 24 (.pointer (some ⟨(bk lv0), (po lv0 + x10 * 1), none⟩)) rfl rfl (fun _ hw => r_ixv ((hm74.see 1 rfl)) x10 (by omega) Tryd.underlying22 sz_9 rfl rfl rfl) (⟨hm74.at 2 rfl, ((hm74.see 1 rfl))⟩) ?_
   simp only [nz]
   refine tn 7 25 (.string (tx (l.getD x10 []))) rfl rfl (fun _ hw => r_cellw (Rs.cell hw.2 eS_len [] x10 (by omega) 0 _ rfl) Tryd.underlying9 rfl rfl rfl) (⟨hm74.at 2 rfl, ((hm74.see 1 rfl))⟩) ?_
   simp only [nz]
   refine two_ready 8 12 (by kernel_rfl) ?_ ?_
   ·refine opd rfl rfl (m_callx hm74 26 rfl (run_rput rfl rfl rfl rfl) (rput_any (Dk.mk l11 l15 x19 x20) (at_ + (x10 : Int)) (l.getD x10 []) v12 v16 (seeS _) _ ((hm74.from 4 rfl).and (hm74.from 5 rfl)) (by simp; omega) (by simp; omega) (by simp; omega)) (fun vv82 w76 hR83 hb84 hm77 => ?_))
    obtain ⟨v78, v79, rfl, hg85⟩ := hR83
    obtain ⟨F81, hm86⟩ : ∃ F81, Mm none S w w76 [.see (DkR d dv0 dv1) Fd, .see (Rs eS 1 l lv0) Fl, .blk g4 #[v12, v16, J (x19), .bool (x20)] 25, .blk g7 #[v22, v26, J (x29 : Int), .bool (x30)] 25, .see (Rs eS 1 l11 v12) F13, .see (Rs eWr 2 l15 v16) F17, .see (Rs eS 1 l21 v22) F23, .see (Rs eWr 2 l25 v26) F27, .see (DkR ((rput_m (Dk.mk l11 l15 x19 x20) (at_ + (x10 : Int)) (l.getD x10 [])).1) v78 v79) F81] := Mm.tookS hm74 hb84 hg85
    clear hm77 hg85 hb84
    have hf87 : (rput_m (Dk.mk l11 l15 x19 x20) (at_ + ((x10 : Nat) : Int)) (l.getD x10 [])).1.safe.length = l11.length := (rput_near (Dk.mk l11 l15 x19 x20) (at_ + ((x10 : Nat) : Int)) (l.getD x10 [])).1
    have hf88 : (rput_m (Dk.mk l11 l15 x19 x20) (at_ + ((x10 : Nat) : Int)) (l.getD x10 [])).1.loose.length ≤ l15.length + 1 := (rput_near (Dk.mk l11 l15 x19 x20) (at_ + ((x10 : Nat) : Int)) (l.getD x10 [])).2.1
    have hf89 : (rput_m (Dk.mk l11 l15 x19 x20) (at_ + ((x10 : Nat) : Int)) (l.getD x10 [])).1.fuse ≤ 9223372036854775807 := (rput_near (Dk.mk l11 l15 x19 x20) (at_ + ((x10 : Nat) : Int)) (l.getD x10 [])).2.2 (show x19 ≤ 9223372036854775807 from (by omega))
    refine ⟨⟨hm86.at 2 rfl, ((hm86.see 1 rfl))⟩, ?_⟩
    simp only [nz]
    refine tn 9 17 (.tuple #[.agg #[v78, v79, J (((rput_m (Dk.mk l11 l15 x19 x20) (at_ + (x10 : Int)) (l.getD x10 [])).1).fuse), .bool (((rput_m (Dk.mk l11 l15 x19 x20) (at_ + (x10 : Int)) (l.getD x10 [])).1).down)], J ((rput_m (Dk.mk l11 l15 x19 x20) (at_ + (x10 : Int)) (l.getD x10 [])).2)]) rfl rfl (fun _ hw => run_mv rfl rfl) (⟨hm86.at 2 rfl, ((hm86.see 1 rfl))⟩) ?_
    simp only [nz]
    refine tn 10 27 (.agg #[v78, v79, J (((rput_m (Dk.mk l11 l15 x19 x20) (at_ + (x10 : Int)) (l.getD x10 [])).1).fuse), .bool (((rput_m (Dk.mk l11 l15 x19 x20) (at_ + (x10 : Int)) (l.getD x10 [])).1).down)]) rfl rfl (fun _ hw => run_ex rfl rfl rfl) (⟨hm86.at 2 rfl, ((hm86.see 1 rfl))⟩) ?_
    simp only [nz]
    refine tn 11 28 (J ((rput_m (Dk.mk l11 l15 x19 x20) (at_ + (x10 : Int)) (l.getD x10 [])).2)) rfl rfl (fun _ hw => run_ex rfl rfl rfl) (⟨hm86.at 2 rfl, ((hm86.see 1 rfl))⟩) ?_
    simp only [nz]
    refine one_ready 12 (by kernel_rfl) ?_
    refine opd rfl rfl (m_alloc (c := #[.slice none 0 0, .slice none 0 0, J 0, .bool false]) (T := 25) hm86 9 rfl (by unfold execOp; go_simp; try rfl) (fun g92 w90 hm91 => ?_))
    refine ⟨⟨hm91.at 2 rfl, ((hm91.see 1 rfl))⟩, ?_⟩
    simp only [nz]
    refine one_ready 13 (by kernel_rfl) ?_
    have ho95 := (rd_one ((hm91.see 8 rfl).1))
    have ho96 := (rd_one ((hm91.see 8 rfl).2))
    refine opd rfl rfl (m_store 9 25 _ _ 0 (.agg #[v78, v79, J (((rput_m (Dk.mk l11 l15 x19 x20) (at_ + (x10 : Int)) (l.getD x10 [])).1).fuse), .bool (((rput_m (Dk.mk l11 l15 x19 x20) (at_ + (x10 : Int)) (l.getD x10 [])).1).down)]) (old := #[.slice none 0 0, .slice none 0 0, J 0, .bool false]) (new := #[v78, v79, J (((rput_m (Dk.mk l11 l15 x19 x20) (at_ + (x10 : Int)) (l.getD x10 [])).1).fuse), .bool (((rput_m (Dk.mk l11 l15 x19 x20) (at_ + (x10 : Int)) (l.getD x10 [])).1).down)]) hm91 rfl rfl rfl rfl rfl (by exact sz_25) (show 0 + 4 ≤ 4 from by decide) a4 rfl (fun w93 hm94 => ?_))
    refine ⟨⟨hm94.at 2 rfl, ((hm94.see 1 rfl))⟩, ?_⟩
    refine one_ready 14 (by kernel_rfl) ?_
    refine opd rfl rfl (w_value 10 (J ((rput_m (Dk.mk l11 l15 x19 x20) (at_ + (x10 : Int)) (l.getD x10 [])).2)) rfl (run_as rfl rfl) ⟨⟨hm94.at 2 rfl, ((hm94.see 1 rfl))⟩, ?_⟩)
    simp only [nz]
    refine wpAnyH_done (by kernel_rfl) ?_ _
    exact ⟨rfl, v78, v79, F81, g92, rfl, hm94⟩
   refine opd rfl rfl (m_alloc (c := #[.slice none 0 0, .slice none 0 0, J 0, .bool false]) (T := 25) hm74 9 rfl (by unfold execOp; go_simp; try rfl) (fun g99 w97 hm98 => ?_))
   refine ⟨⟨hm98.at 2 rfl, ((hm98.see 1 rfl))⟩, ?_⟩
   simp only [nz]
   refine one_ready 8 (by kernel_rfl) ?_
   refine opd rfl rfl (m_callx hm98 26 rfl (run_rput rfl rfl rfl rfl) (rput_any (Dk.mk l11 l15 x19 x20) (at_ + (x10 : Int)) (l.getD x10 []) v12 v16 (seeS _) _ ((hm98.from 4 rfl).and (hm98.from 5 rfl)) (by simp; omega) (by simp; omega) (by simp; omega)) (fun vv106 w100 hR107 hb108 hm101 => ?_))
   obtain ⟨v102, v103, rfl, hg109⟩ := hR107
   obtain ⟨F105, hm110⟩ : ∃ F105, Mm none S w w100 [.see (DkR d dv0 dv1) Fd, .see (Rs eS 1 l lv0) Fl, .blk g4 #[v12, v16, J (x19), .bool (x20)] 25, .blk g7 #[v22, v26, J (x29 : Int), .bool (x30)] 25, .see (Rs eS 1 l11 v12) F13, .see (Rs eWr 2 l15 v16) F17, .see (Rs eS 1 l21 v22) F23, .see (Rs eWr 2 l25 v26) F27, .blk g99 #[.slice none 0 0, .slice none 0 0, J 0, .bool false] 25, .see (DkR ((rput_m (Dk.mk l11 l15 x19 x20) (at_ + (x10 : Int)) (l.getD x10 [])).1) v102 v103) F105] := Mm.tookS hm98 hb108 hg109
   clear hm101 hg109 hb108
   have hf111 : (rput_m (Dk.mk l11 l15 x19 x20) (at_ + ((x10 : Nat) : Int)) (l.getD x10 [])).1.safe.length = l11.length := (rput_near (Dk.mk l11 l15 x19 x20) (at_ + ((x10 : Nat) : Int)) (l.getD x10 [])).1
   have hf112 : (rput_m (Dk.mk l11 l15 x19 x20) (at_ + ((x10 : Nat) : Int)) (l.getD x10 [])).1.loose.length ≤ l15.length + 1 := (rput_near (Dk.mk l11 l15 x19 x20) (at_ + ((x10 : Nat) : Int)) (l.getD x10 [])).2.1
   have hf113 : (rput_m (Dk.mk l11 l15 x19 x20) (at_ + ((x10 : Nat) : Int)) (l.getD x10 [])).1.fuse ≤ 9223372036854775807 := (rput_near (Dk.mk l11 l15 x19 x20) (at_ + ((x10 : Nat) : Int)) (l.getD x10 [])).2.2 (show x19 ≤ 9223372036854775807 from (by omega))
   refine ⟨⟨hm110.at 2 rfl, ((hm110.see 1 rfl))⟩, ?_⟩
   simp only [nz]
   refine tn 9 17 (.tuple #[.agg #[v102, v103, J (((rput_m (Dk.mk l11 l15 x19 x20) (at_ + (x10 : Int)) (l.getD x10 [])).1).fuse), .bool (((rput_m (Dk.mk l11 l15 x19 x20) (at_ + (x10 : Int)) (l.getD x10 [])).1).down)], J ((rput_m (Dk.mk l11 l15 x19 x20) (at_ + (x10 : Int)) (l.getD x10 [])).2)]) rfl rfl (fun _ hw => run_mv rfl rfl) (⟨hm110.at 2 rfl, ((hm110.see 1 rfl))⟩) ?_
   simp only [nz]
   refine tn 10 27 (.agg #[v102, v103, J (((rput_m (Dk.mk l11 l15 x19 x20) (at_ + (x10 : Int)) (l.getD x10 [])).1).fuse), .bool (((rput_m (Dk.mk l11 l15 x19 x20) (at_ + (x10 : Int)) (l.getD x10 [])).1).down)]) rfl rfl (fun _ hw => run_ex rfl rfl rfl) (⟨hm110.at 2 rfl, ((hm110.see 1 rfl))⟩) ?_
   simp only [nz]
   refine tn 11 28 (J ((rput_m (Dk.mk l11 l15 x19 x20) (at_ + (x10 : Int)) (l.getD x10 [])).2)) rfl rfl (fun _ hw => run_ex rfl rfl rfl) (⟨hm110.at 2 rfl, ((hm110.see 1 rfl))⟩) ?_
   simp only [nz]
   refine one_ready 13 (by kernel_rfl) ?_
   have ho116 := (rd_one ((hm110.see 9 rfl).1))
   have ho117 := (rd_one ((hm110.see 9 rfl).2))
   refine opd rfl rfl (m_store 8 25 _ _ 0 (.agg #[v102, v103, J (((rput_m (Dk.mk l11 l15 x19 x20) (at_ + (x10 : Int)) (l.getD x10 [])).1).fuse), .bool (((rput_m (Dk.mk l11 l15 x19 x20) (at_ + (x10 : Int)) (l.getD x10 [])).1).down)]) (old := #[.slice none 0 0, .slice none 0 0, J 0, .bool false]) (new := #[v102, v103, J (((rput_m (Dk.mk l11 l15 x19 x20) (at_ + (x10 : Int)) (l.getD x10 [])).1).fuse), .bool (((rput_m (Dk.mk l11 l15 x19 x20) (at_ + (x10 : Int)) (l.getD x10 [])).1).down)]) hm110 rfl rfl rfl rfl rfl (by exact sz_25) (show 0 + 4 ≤ 4 from by decide) a4 rfl (fun w114 hm115 => ?_))
   refine ⟨⟨hm115.at 2 rfl, ((hm115.see 1 rfl))⟩, ?_⟩
   refine one_ready 14 (by kernel_rfl) ?_
   refine opd rfl rfl (w_value 10 (J ((rput_m (Dk.mk l11 l15 x19 x20) (at_ + (x10 : Int)) (l.getD x10 [])).2)) rfl (run_as rfl rfl) ⟨⟨hm115.at 2 rfl, ((hm115.see 1 rfl))⟩, ?_⟩)
   simp only [nz]
   refine wpAnyH_done (by kernel_rfl) ?_ _
   exact ⟨rfl, v102, v103, F105, g99, rfl, (Mm.reorder hm115 [0, 1, 2, 3, 4, 5, 6, 7, 9, 8] (by decide) rfl)⟩
  clear hm65
  rintro _ _ w118 ⟨rfl, v78, v79, F81, g92, rfl, hm119⟩
  have hf120 : (rput_m (Dk.mk l11 l15 x19 x20) (at_ + ((x10 : Nat) : Int)) (l.getD x10 [])).1.safe.length = l11.length := (rput_near (Dk.mk l11 l15 x19 x20) (at_ + ((x10 : Nat) : Int)) (l.getD x10 [])).1
  have hf121 : (rput_m (Dk.mk l11 l15 x19 x20) (at_ + ((x10 : Nat) : Int)) (l.getD x10 [])).1.loose.length ≤ l15.length + 1 := (rput_near (Dk.mk l11 l15 x19 x20) (at_ + ((x10 : Nat) : Int)) (l.getD x10 [])).2.1
  have hf122 : (rput_m (Dk.mk l11 l15 x19 x20) (at_ + ((x10 : Nat) : Int)) (l.getD x10 [])).1.fuse ≤ 9223372036854775807 := (rput_near (Dk.mk l11 l15 x19 x20) (at_ + ((x10 : Nat) : Int)) (l.getD x10 [])).2.2 (show x19 ≤ 9223372036854775807 from (by omega))
  refine tj (hK73 _ _ (wk (fun K123 hK123 => (wk (fun K124 hK124 => (wq ?_))))))
  refine lm 29 (J ((rput_m (Dk.mk l11 l15 x19 x20) (at_ + (x10 : Int)) (l.getD x10 [])).2)) ?_
  refine lw 30 (.bool (decide (¬ (rput_m (Dk.mk l11 l15 x19 x20) (at_ + (x10 : Int)) (l.getD x10 [])).2 = 0))) (z_neq ((rput_m (Dk.mk l11 l15 x19 x20) (at_ + (x10 : Int)) (l.getD x10 [])).2) 0 rfl rfl rfl) ?_
  simp only [nz]
  refine wn (tj (hK124 _ _ ?_))
  refine cond_d (¬ (rput_m (Dk.mk l11 l15 x19 x20) (at_ + (x10 : Int)) (l.getD x10 [])).2 = 0) rfl (fun hc125 => ?_) (fun hc125 => ?_)
  ·refine wk (fun K126 hK126 => (wq ?_))
   refine lw 31 (.agg #[v78, v79, J (((rput_m (Dk.mk l11 l15 x19 x20) (at_ + (x10 : Int)) (l.getD x10 [])).1).fuse), .bool (((rput_m (Dk.mk l11 l15 x19 x20) (at_ + (x10 : Int)) (l.getD x10 [])).1).down)]) (r_whole (hm119.at 9 rfl) Tryd.underlying25 rfl (by exact sz_25) rfl rfl) ?_
   refine lm 32 (J ((rput_m (Dk.mk l11 l15 x19 x20) (at_ + (x10 : Int)) (l.getD x10 [])).2)) ?_
   simp only [nz]
   have ho129 := (rd_one ((hm119.see 8 rfl).1))
   have ho130 := (rd_one ((hm119.see 8 rfl).2))
   refine lst rfl (m_store 3 25 _ _ 0 (.agg #[v78, v79, J (((rput_m (Dk.mk l11 l15 x19 x20) (at_ + (x10 : Int)) (l.getD x10 [])).1).fuse), .bool (((rput_m (Dk.mk l11 l15 x19 x20) (at_ + (x10 : Int)) (l.getD x10 [])).1).down)]) (old := #[v22, v26, J (x29 : Int), .bool (x30)]) (new := #[v78, v79, J (((rput_m (Dk.mk l11 l15 x19 x20) (at_ + (x10 : Int)) (l.getD x10 [])).1).fuse), .bool (((rput_m (Dk.mk l11 l15 x19 x20) (at_ + (x10 : Int)) (l.getD x10 [])).1).down)]) hm119 rfl rfl rfl rfl rfl (by exact sz_25) (show 0 + 4 ≤ 4 from by decide) a4 rfl (fun w127 hm128 => ?_))
   refine la 7 (J ((rput_m (Dk.mk l11 l15 x19 x20) (at_ + (x10 : Int)) (l.getD x10 [])).2)) ?_
   simp only [nz]
   refine wn (tj (hK126 _ _ (wp_ret (then_r (blk_r (then_r (then_r (blk_r (then_r (then_r ?_))))))))))
   have he131 : rall_m_l0 d at_ l ((l.length - 0) + 1) (0, d.safe, d.loose, d.fuse, d.down, ([] : List (List UInt8)), ([] : List Wr), 0, false) = .inr (((rput_m (Dk.mk l11 l15 x19 x20) (at_ + ((x10 : Nat) : Int)) (l.getD x10 [])).1), (rput_m (Dk.mk l11 l15 x19 x20) (at_ + ((x10 : Nat) : Int)) (l.getD x10 [])).2) := (hi45.trans (show rall_m_b0 d at_ l (rall_m_l0 d at_ l k44) x10 l11 l15 x19 x20 l21 l25 x29 x30 = .inr (((rput_m (Dk.mk l11 l15 x19 x20) (at_ + ((x10 : Nat) : Int)) (l.getD x10 [])).1), (rput_m (Dk.mk l11 l15 x19 x20) (at_ + ((x10 : Nat) : Int)) (l.getD x10 [])).2) from by unfold rall_m_b0; rw [if_pos hc71, if_pos hc125] <;> rfl))
   have he132 : rall_m d at_ l = (((rput_m (Dk.mk l11 l15 x19 x20) (at_ + ((x10 : Nat) : Int)) (l.getD x10 [])).1), (rput_m (Dk.mk l11 l15 x19 x20) (at_ + ((x10 : Nat) : Int)) (l.getD x10 [])).2) := by unfold rall_m; rw [he131] <;> rfl
   exact ⟨rfl, .tuple #[.agg #[v78, v79, J (((rput_m (Dk.mk l11 l15 x19 x20) (at_ + (x10 : Int)) (l.getD x10 [])).1).fuse), .bool (((rput_m (Dk.mk l11 l15 x19 x20) (at_ + (x10 : Int)) (l.getD x10 [])).1).down)], J ((rput_m (Dk.mk l11 l15 x19 x20) (at_ + (x10 : Int)) (l.getD x10 [])).2)], Mem.res_ct rfl rfl (hm128.at 3 rfl) Tryd.underlying25 rfl (by exact sz_25) rfl, ⟨⟨_, rfl, v78, v79, (by rw [he132]), by rw [he132]; exact hm128.give (hm128.from 8 rfl)⟩, hm128.below⟩⟩
  refine wp_skip (tj (hK123 _ _ (wq ?_)))
  refine lw 33 (.agg #[v78, v79, J (((rput_m (Dk.mk l11 l15 x19 x20) (at_ + (x10 : Int)) (l.getD x10 [])).1).fuse), .bool (((rput_m (Dk.mk l11 l15 x19 x20) (at_ + (x10 : Int)) (l.getD x10 [])).1).down)]) (r_whole (hm119.at 9 rfl) Tryd.underlying25 rfl (by exact sz_25) rfl rfl) ?_
  simp only [nz]
  have ho135 := (rd_one ((hm119.see 8 rfl).1))
  have ho136 := (rd_one ((hm119.see 8 rfl).2))
  refine lst rfl (m_store 2 25 _ _ 0 (.agg #[v78, v79, J (((rput_m (Dk.mk l11 l15 x19 x20) (at_ + (x10 : Int)) (l.getD x10 [])).1).fuse), .bool (((rput_m (Dk.mk l11 l15 x19 x20) (at_ + (x10 : Int)) (l.getD x10 [])).1).down)]) (old := #[v12, v16, J (x19), .bool (x20)]) (new := #[v78, v79, J (((rput_m (Dk.mk l11 l15 x19 x20) (at_ + (x10 : Int)) (l.getD x10 [])).1).fuse), .bool (((rput_m (Dk.mk l11 l15 x19 x20) (at_ + (x10 : Int)) (l.getD x10 [])).1).down)]) hm119 rfl rfl rfl rfl rfl (by exact sz_25) (show 0 + 4 ≤ 4 from by decide) a4 rfl (fun w133 hm134 => ?_))
  refine wn (blk_n (tj (hK72 _ _ (wq ?_))))
  refine lm 15 (J (x10 : Int)) ?_
  refine lw 16 (J (((x10 + 1) : Nat) : Int)) (r_add x10 1 (show (x10 + 1) < 9223372036854775808 from by omega) rfl rfl rfl) ?_
  refine la 8 (J (((x10 + 1) : Nat) : Int)) ?_
  simp only [nz]
  refine wn ?_
  obtain ⟨F137, hm138⟩ : ∃ F137, Mm none S w w133 [.see (DkR d dv0 dv1) Fd, .see (Rs eS 1 l lv0) Fl, .blk g4 #[v78, v79, J (((rput_m (Dk.mk l11 l15 x19 x20) (at_ + (x10 : Int)) (l.getD x10 [])).1).fuse), .bool (((rput_m (Dk.mk l11 l15 x19 x20) (at_ + (x10 : Int)) (l.getD x10 [])).1).down)] 25, .blk g7 #[v22, v26, J (x29 : Int), .bool (x30)] 25, .see (Rs eS 1 l11 v12) F13, .see (Rs eWr 2 l15 v16) F17, .see (Rs eS 1 l21 v22) F23, .see (Rs eWr 2 l25 v26) F27, .see (DkR ((rput_m (Dk.mk l11 l15 x19 x20) (at_ + (x10 : Int)) (l.getD x10 [])).1) v78 v79) F81, .blk g92 #[v78, v79, J (((rput_m (Dk.mk l11 l15 x19 x20) (at_ + (x10 : Int)) (l.getD x10 [])).1).fuse), .bool (((rput_m (Dk.mk l11 l15 x19 x20) (at_ + (x10 : Int)) (l.getD x10 [])).1).down)] 25, .see (Rs eS 1 (((rput_m (Dk.mk l11 l15 x19 x20) (at_ + (x10 : Int)) (l.getD x10 [])).1).safe) v78) F137] := hm134.derive ((hm134.from 8 rfl).mono (fun _ h => h.1))
  obtain ⟨F140, hm141⟩ : ∃ F140, Mm none S w w133 [.see (DkR d dv0 dv1) Fd, .see (Rs eS 1 l lv0) Fl, .blk g4 #[v78, v79, J (((rput_m (Dk.mk l11 l15 x19 x20) (at_ + (x10 : Int)) (l.getD x10 [])).1).fuse), .bool (((rput_m (Dk.mk l11 l15 x19 x20) (at_ + (x10 : Int)) (l.getD x10 [])).1).down)] 25, .blk g7 #[v22, v26, J (x29 : Int), .bool (x30)] 25, .see (Rs eS 1 l11 v12) F13, .see (Rs eWr 2 l15 v16) F17, .see (Rs eS 1 l21 v22) F23, .see (Rs eWr 2 l25 v26) F27, .see (DkR ((rput_m (Dk.mk l11 l15 x19 x20) (at_ + (x10 : Int)) (l.getD x10 [])).1) v78 v79) F81, .blk g92 #[v78, v79, J (((rput_m (Dk.mk l11 l15 x19 x20) (at_ + (x10 : Int)) (l.getD x10 [])).1).fuse), .bool (((rput_m (Dk.mk l11 l15 x19 x20) (at_ + (x10 : Int)) (l.getD x10 [])).1).down)] 25, .see (Rs eS 1 (((rput_m (Dk.mk l11 l15 x19 x20) (at_ + (x10 : Int)) (l.getD x10 [])).1).safe) v78) F137, .see (Rs eWr 2 (((rput_m (Dk.mk l11 l15 x19 x20) (at_ + (x10 : Int)) (l.getD x10 [])).1).loose) v79) F140] := hm138.derive ((hm138.from 8 rfl).mono (fun _ h => h.2))
  obtain ⟨F143, hm144⟩ := hm141.derive (hm141.from 6 rfl)
  obtain ⟨F146, hm147⟩ := hm144.derive (hm144.from 7 rfl)
  refine tj (hR66 _ _ _ ⟨k44, (x10 + 1), (((rput_m (Dk.mk l11 l15 x19 x20) (at_ + (x10 : Int)) (l.getD x10 [])).1).safe), (((rput_m (Dk.mk l11 l15 x19 x20) (at_ + (x10 : Int)) (l.getD x10 [])).1).loose), ((rput_m (Dk.mk l11 l15 x19 x20) (at_ + (x10 : Int)) (l.getD x10 [])).1).fuse, (((rput_m (Dk.mk l11 l15 x19 x20) (at_ + (x10 : Int)) (l.getD x10 [])).1).down), l21, l25, x29, x30, v78, F137, v79, F140, v22, F143, v26, F146, (fun qq => bif Nat.blt qq 24 then List.getD [u0 0, Pp g92 0, J ((rput_m (Dk.mk l11 l15 x19 x20) (at_ + (x10 : Int)) (l.getD x10 [])).2), J (x10 : Int), lv0, J (l.length : Int), .bool (decide (x10 < l.length)), J (x10 : Int), J (((x10 + 1) : Nat) : Int), .tuple #[.agg #[v78, v79, J (((rput_m (Dk.mk l11 l15 x19 x20) (at_ + (x10 : Int)) (l.getD x10 [])).1).fuse), .bool (((rput_m (Dk.mk l11 l15 x19 x20) (at_ + (x10 : Int)) (l.getD x10 [])).1).down)], J ((rput_m (Dk.mk l11 l15 x19 x20) (at_ + (x10 : Int)) (l.getD x10 [])).2)], .agg #[v12, v16, J (x19), .bool (x20)], J (at_), J (x10 : Int), J ((at_ + (x10 : Int))), lv0, J (x10 : Int), .pointer (some ⟨(bk lv0), (po lv0 + x10 * 1), none⟩), .string (tx (l.getD x10 [])), .tuple #[.agg #[v78, v79, J (((rput_m (Dk.mk l11 l15 x19 x20) (at_ + (x10 : Int)) (l.getD x10 [])).1).fuse), .bool (((rput_m (Dk.mk l11 l15 x19 x20) (at_ + (x10 : Int)) (l.getD x10 [])).1).down)], J ((rput_m (Dk.mk l11 l15 x19 x20) (at_ + (x10 : Int)) (l.getD x10 [])).2)], .agg #[v78, v79, J (((rput_m (Dk.mk l11 l15 x19 x20) (at_ + (x10 : Int)) (l.getD x10 [])).1).fuse), .bool (((rput_m (Dk.mk l11 l15 x19 x20) (at_ + (x10 : Int)) (l.getD x10 [])).1).down)], J ((rput_m (Dk.mk l11 l15 x19 x20) (at_ + (x10 : Int)) (l.getD x10 [])).2), J ((rput_m (Dk.mk l11 l15 x19 x20) (at_ + (x10 : Int)) (l.getD x10 [])).2), .bool (decide (¬ (rput_m (Dk.mk l11 l15 x19 x20) (at_ + (x10 : Int)) (l.getD x10 [])).2 = 0)), u0 23] qq undef else List.getD [u0 24, .agg #[v78, v79, J (((rput_m (Dk.mk l11 l15 x19 x20) (at_ + (x10 : Int)) (l.getD x10 [])).1).fuse), .bool (((rput_m (Dk.mk l11 l15 x19 x20) (at_ + (x10 : Int)) (l.getD x10 [])).1).down)]] (qq - 24) undef), rfl, (by omega), (hi45.trans (show rall_m_b0 d at_ l (rall_m_l0 d at_ l k44) x10 l11 l15 x19 x20 l21 l25 x29 x30 = rall_m_l0 d at_ l k44 ((x10 + 1), (((rput_m (Dk.mk l11 l15 x19 x20) (at_ + (x10 : Int)) (l.getD x10 [])).1).safe), (((rput_m (Dk.mk l11 l15 x19 x20) (at_ + (x10 : Int)) (l.getD x10 [])).1).loose), ((rput_m (Dk.mk l11 l15 x19 x20) (at_ + (x10 : Int)) (l.getD x10 [])).1).fuse, (((rput_m (Dk.mk l11 l15 x19 x20) (at_ + (x10 : Int)) (l.getD x10 [])).1).down), l21, l25, x29, x30) from by unfold rall_m_b0; rw [if_pos hc71, if_neg hc125] <;> rfl)), (by omega), rfl, (Mm.reorder hm147 [0, 1, 2, 3, 10, 11, 12, 13] (by decide) rfl)⟩ ?_)
  omega
 rintro _ w161 ⟨y46, y47, y50, y53, y54, y55, y58, y61, y62, v48, F49, v51, F52, v56, F57, v59, F60, yu0, hx63, hpa, rfl, hm162⟩
 have hq163 : rall_m d at_ l = rall_m_k0 d at_ l y46 y47 y50 y53 y54 y55 y58 y61 y62 := (show rall_m d at_ l = rall_m_k0 d at_ l y46 y47 y50 y53 y54 y55 y58 y61 y62 from by unfold rall_m; rw [hx63] <;> rfl)
 refine tj (hK8 _ _ (wk (fun K164 hK164 => (wq ?_))))
 refine lw 34 (.agg #[v48, v51, J (y53), .bool (y54)]) (r_whole (hm162.at 2 rfl) Tryd.underlying25 rfl (by exact sz_25) rfl rfl) ?_
 simp only [nz]
 refine lst rfl (m_callx hm162 35 rfl (run_rflush rfl rfl) (rflush_any (Dk.mk y47 y50 y53 y54) v48 v51 (seeS _) _ ((hm162.from 4 rfl).and (hm162.from 5 rfl)) (by simp; omega) (by simp; omega) (by simp; omega)) (fun vv171 w165 hR172 hb173 hm166 => ?_))
 obtain ⟨v167, v168, rfl, hg174⟩ := hR172
 obtain ⟨F170, hm175⟩ : ∃ F170, Mm none S w w165 [.see (DkR d dv0 dv1) Fd, .see (Rs eS 1 l lv0) Fl, .blk g4 #[v48, v51, J (y53), .bool (y54)] 25, .blk g7 #[v56, v59, J (y61 : Int), .bool (y62)] 25, .see (Rs eS 1 y47 v48) F49, .see (Rs eWr 2 y50 v51) F52, .see (Rs eS 1 y55 v56) F57, .see (Rs eWr 2 y58 v59) F60, .see (DkR ((rflush_m (Dk.mk y47 y50 y53 y54)).1) v167 v168) F170] := Mm.tookS hm162 hb173 hg174
 clear hm166 hg174 hb173
 have hf176 : (rflush_m (Dk.mk y47 y50 y53 y54)).1.safe.length = y47.length := (rflush_near (Dk.mk y47 y50 y53 y54)).1
 have hf177 : (rflush_m (Dk.mk y47 y50 y53 y54)).1.loose.length ≤ y50.length + 0 := (rflush_near (Dk.mk y47 y50 y53 y54)).2.1
 have hf178 : (rflush_m (Dk.mk y47 y50 y53 y54)).1.fuse ≤ 9223372036854775807 := (rflush_near (Dk.mk y47 y50 y53 y54)).2.2 (show y53 ≤ 9223372036854775807 from (by omega))
 simp only [nz]
 refine lw 36 (.agg #[v167, v168, J (((rflush_m (Dk.mk y47 y50 y53 y54)).1).fuse), .bool (((rflush_m (Dk.mk y47 y50 y53 y54)).1).down)]) (run_ex rfl rfl rfl) ?_
 refine lw 37 (J ((rflush_m (Dk.mk y47 y50 y53 y54)).2)) (run_ex rfl rfl rfl) ?_
 simp only [nz]
 have ho181 := (rd_one ((hm175.see 8 rfl).1))
 have ho182 := (rd_one ((hm175.see 8 rfl).2))
 refine lst rfl (m_store 3 25 _ _ 0 (.agg #[v167, v168, J (((rflush_m (Dk.mk y47 y50 y53 y54)).1).fuse), .bool (((rflush_m (Dk.mk y47 y50 y53 y54)).1).down)]) (old := #[v56, v59, J (y61 : Int), .bool (y62)]) (new := #[v167, v168, J (((rflush_m (Dk.mk y47 y50 y53 y54)).1).fuse), .bool (((rflush_m (Dk.mk y47 y50 y53 y54)).1).down)]) hm175 rfl rfl rfl rfl rfl (by exact sz_25) (show 0 + 4 ≤ 4 from by decide) a4 rfl (fun w179 hm180 => ?_))
 refine la 7 (J ((rflush_m (Dk.mk y47 y50 y53 y54)).2)) ?_
 simp only [nz]
 refine wn (tj (hK164 _ _ (wp_ret ?_)))
 have he183 : rall_m d at_ l = (((rflush_m (Dk.mk y47 y50 y53 y54)).1), (rflush_m (Dk.mk y47 y50 y53 y54)).2) := (hq163.trans (show rall_m_k0 d at_ l y46 y47 y50 y53 y54 y55 y58 y61 y62 = (((rflush_m (Dk.mk y47 y50 y53 y54)).1), (rflush_m (Dk.mk y47 y50 y53 y54)).2) from by unfold rall_m_k0; rfl))
 exact ⟨rfl, .tuple #[.agg #[v167, v168, J (((rflush_m (Dk.mk y47 y50 y53 y54)).1).fuse), .bool (((rflush_m (Dk.mk y47 y50 y53 y54)).1).down)], J ((rflush_m (Dk.mk y47 y50 y53 y54)).2)], Mem.res_ct rfl rfl (hm180.at 3 rfl) Tryd.underlying25 rfl (by exact sz_25) rfl, ⟨⟨_, rfl, v167, v168, (by rw [he183]), by rw [he183]; exact hm180.give (hm180.from 8 rfl)⟩, hm180.below⟩⟩
theorem run_rall {o : Oper} {a : Act} {w : World} {x0 x1 x2 : Operand} {v0 v1 v2 : Value} (ho : o.op = .call { callee := .value (.func 43), args := #[x0, x1, x2], argTypes := #[25, 3, 22] }) (h0 : a.eval x0 = v0) (h1 : a.eval x1 = v1) (h2 : a.eval x2 = v2) :
  (execOp a.eval o).run Tryd.prog w = .ok (.enter 43 #[v0, v1, v2]) w := by
 unfold execOp
 simp only [ho]
 have hf : a.eval (.func 43) = .func (.func 43) #[] #[] := rfl
 generalize a.eval = f at *
 go_simp
end Go.Proofs.YtnmaaijeamlplaaDoor.Bk
namespace Go.Proofs.YtnmaaijeamlplaaDoor.Bk
open Go.RowKit Go.Proofs.YtnmaaijeamlplaaDoor.Mem
theorem done_l (epoch n : Int) (l : List (List UInt8)) : ∀ k (s : List UInt8) i, l.length ≤ i + k → ∃ j, done_m_l0 epoch n l (k + 1) (s, i) = .inl (s ++ (l.drop i).flatten, j)
 | k, s, i, h => by
  have E : done_m_l0 epoch n l (k + 1) (s, i) = done_m_b0 epoch n l (done_m_l0 epoch n l k) s i := rfl
  rw [E]
  unfold done_m_b0
  by_cases h1 : i < l.length
  ·rw [if_pos h1, getd_drop [] l i h1]
   match k, h with
   | 0, h => omega
   | k + 1, h =>
    obtain ⟨j, e⟩ := done_l epoch n l k (s ++ l.getD i []) (i + 1) (by omega)
    exact ⟨j, by rw [e, List.append_assoc, List.flatten_cons]⟩
  rw [if_neg h1, List.drop_eq_nil_of_le (by omega)]
  exact ⟨i, by show _ = Sum.inl (s ++ [], _); rw [List.append_nil]⟩
attribute [local irreducible] rfull_m sum_m fill_m eight_m four_m number_m in
theorem done_is (epoch n : Int) (l : List (List UInt8)) : done_m epoch n l = rend_m epoch n l := by
 obtain ⟨j, e⟩ := done_l epoch n l (l.length - 0) [] 0 (by omega)
 unfold done_m rend_m
 rw [e]
 show done_m_k0 epoch n l ([] ++ (l.drop 0).flatten) j = _
 unfold done_m_k0
 rw [List.drop_zero, List.nil_append, join_nil, eight_is, four_is]
 have h1 := number_len epoch 8 (by decide) (by decide)
 have h2 := number_len n 4 (by decide) (by decide)
 have h3 := sum_len l.flatten
 exact rfull_is _ (by simp only [List.length_append, List.length_cons, List.length_nil]; omega)
theorem done_len (epoch n : Int) (l : List (List UInt8)) : (done_m epoch n l).length = 256 := by rw [done_is]; exact rend_len epoch n l
theorem putfl_is (d : Dk) (at_ : Int) (l : List (List UInt8)) : putfl_m d at_ l = if (puts d at_ l).2 = 0 then flush_m (puts d at_ l).1 else puts d at_ l := by
 unfold putfl_m
 rw [putall_is]
 by_cases h : (puts d at_ l).2 = 0
 ·rw [if_neg (fun c => c h), if_pos h]
 rw [if_pos h, if_neg h]
theorem rall_l (d : Dk) (at_ : Int) (l : List (List UInt8)) (a : List (List UInt8)) (b : List Wr) (f : Nat) (g : Bool) : ∀ k i s lo fu dn, l.length ≤ i + k → i ≤ l.length →
  fin (rall_m_l0 d at_ l (k + 1) (i, s, lo, fu, dn, a, b, f, g)) (fun r => r) (fun zz => rall_m_k0 d at_ l zz.1 zz.2.1 zz.2.2.1 zz.2.2.2.1 zz.2.2.2.2.1 zz.2.2.2.2.2.1 zz.2.2.2.2.2.2.1 zz.2.2.2.2.2.2.2.1 zz.2.2.2.2.2.2.2.2) = if (puts ⟨s, lo, fu, dn⟩ (at_ + (i : Int)) (l.drop i)).2 = 0 then flush_m (puts ⟨s, lo, fu, dn⟩ (at_ + (i : Int)) (l.drop i)).1 else puts ⟨s, lo, fu, dn⟩ (at_ + (i : Int)) (l.drop i)
 | k, i, s, lo, fu, dn, h, hi => by
  have E : rall_m_l0 d at_ l (k + 1) (i, s, lo, fu, dn, a, b, f, g) = rall_m_b0 d at_ l (rall_m_l0 d at_ l k) i s lo fu dn a b f g := rfl
  rw [E]
  unfold rall_m_b0
  rw [← put_eq]
  by_cases h1 : i < l.length
  ·rw [if_pos h1, getd_drop [] l i h1]
   have W : puts ⟨s, lo, fu, dn⟩ (at_ + (i : Int)) (l.getD i [] :: l.drop (i + 1)) = (if (put_m ⟨s, lo, fu, dn⟩ (at_ + (i : Int)) (l.getD i [])).2 = 0 then puts (put_m ⟨s, lo, fu, dn⟩ (at_ + (i : Int)) (l.getD i [])).1 (at_ + (i : Int) + 1) (l.drop (i + 1)) else put_m ⟨s, lo, fu, dn⟩ (at_ + (i : Int)) (l.getD i [])) := rfl
   rw [W]
   by_cases h2 : (put_m ⟨s, lo, fu, dn⟩ (at_ + (i : Int)) (l.getD i [])).2 = 0
   ·rw [if_neg (fun c => c h2), if_pos h2, show at_ + (i : Int) + 1 = at_ + ((i + 1 : Nat) : Int) by omega]
    match k, h with
    | 0, h => omega
    | k + 1, h => exact rall_l d at_ l a b f g k (i + 1) _ _ _ _ (by omega) (by omega)
   rw [if_pos h2, if_neg h2, if_neg h2]
   rfl
  rw [if_neg h1, List.drop_eq_nil_of_le (by omega)]
  have W : puts ⟨s, lo, fu, dn⟩ (at_ + (i : Int)) [] = (⟨s, lo, fu, dn⟩, 0) := rfl
  rw [W, if_pos rfl]
  show rall_m_k0 d at_ l i s lo fu dn a b f g = _
  unfold rall_m_k0
  rw [flush_eq]
theorem rall_eq (d : Dk) (at_ : Int) (l : List (List UInt8)) : rall_m d at_ l = putfl_m d at_ l := by
 have := rall_l d at_ l [] [] 0 false (l.length - 0) 0 d.safe d.loose d.fuse d.down (by omega) (Nat.zero_le _)
 rw [List.drop_zero, show at_ + ((0 : Nat) : Int) = at_ by omega] at this
 rw [putfl_is]
 exact this
theorem rall_near (d : Dk) (at_ : Int) (l : List (List UInt8)) : near d (rall_m d at_ l).1 l.length := by rw [rall_eq]; exact putfl_near d at_ l
end Go.Proofs.YtnmaaijeamlplaaDoor.Bk
