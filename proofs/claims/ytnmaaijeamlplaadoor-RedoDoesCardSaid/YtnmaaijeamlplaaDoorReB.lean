import Derived.Test.YtnmaaijeamlplaaDoorReA
import Derived.Test.YtnmaaijeamlplaaDoorBkO
set_option linter.unusedVariables false
set_option linter.unusedSimpArgs false
set_option maxHeartbeats 4000000
set_option maxRecDepth 100000
namespace Go.Proofs.YtnmaaijeamlplaaDoor.Bk
open Go.Proofs.YtnmaaijeamlplaaDoor.Mem
theorem number_l (n size : Int) : ∀ (k : Nat) (x i : Int) (l : List UInt8), i + 1 ≤ (k : Int) → ∃ x' i' l', number_m_l0 n size (k + 1) (x, i, l) = .inl (x', i', l') ∧ l'.length = l.length
 | 0, x, i, l, h => by
  show ∃ x' i' l', number_m_b0 n size (number_m_l0 n size 0) x i l = .inl (x', i', l') ∧ _
  unfold number_m_b0
  rw [if_neg (by omega)]
  exact ⟨x, i, l, rfl, rfl⟩
 | k + 1, x, i, l, h => by
  show ∃ x' i' l', number_m_b0 n size (number_m_l0 n size (k + 1)) x i l = .inl (x', i', l') ∧ _
  unfold number_m_b0
  by_cases c : 0 ≤ i
  ·rw [if_pos c]
   obtain ⟨x', i', l', e, h2⟩ := number_l n size k (x / 256) (i - 1) (l.set i.toNat (UInt8.ofNat (x % 256).toNat)) (by omega)
   exact ⟨x', i', l', e, by rw [h2, List.length_set]⟩
  rw [if_neg c]
  exact ⟨x, i, l, rfl, rfl⟩
theorem number_len (n size : Int) (h : 0 ≤ size) (h8 : size ≤ 8) : (((number_m n size).length : Nat) : Int) = size := by
 obtain ⟨x', i', l', e, h2⟩ := number_l n size ((size - 1) + 1).toNat n (size - 1) (List.replicate size.toNat 0) (by omega)
 unfold number_m
 rw [e]
 show ((l'.length : Nat) : Int) = size
 rw [h2, List.length_replicate]
 omega
theorem rfill_len (s : List UInt8) (h : s.length ≤ 256) : (fill_m s).length = 256 := by
 unfold fill_m
 have := rep0_len (256 - ((s.length : Nat) : Int)) (by omega)
 rw [List.length_append]
 omega
theorem pick_len (at_ : Int) : ∀ (l : List Wr) (s : List UInt8), (∀ x ∈ l, x.data.length = 256) → s.length = 256 → (l.foldl (pick at_) s).length = 256
 | [], s, _, h => h
 | x :: l, s, hl, h => by
  rw [List.foldl_cons]
  refine pick_len at_ l _ (fun y hy => hl y (List.mem_cons_of_mem _ hy)) ?_
  unfold pick
  split
  ·exact hl x List.mem_cons_self
  exact h
theorem get_len (d : Dk) (at_ : Int) : ¬ (get_m d at_).2 = 0 ∨ (get_m d at_).1.length = 256 := by
 rw [get_is]
 by_cases h : ready_m d = 0
 ·rw [if_neg (fun c => c h)]
  by_cases h1 : at_ < 0
  ·rw [if_pos h1]; exact .inl (by decide)
  rw [if_neg h1]
  by_cases h2 : (d.safe.length : Int) ≤ at_
  ·rw [if_pos h2]; exact .inl (by decide)
  rw [if_neg h2]
  have hr := (ready_ok h).1
  refine .inr (pick_len at_ _ _ (fun x hx => (hr.2.2.2 x hx).2.2) ?_)
  rw [List.getD_eq_getElem?_getD, List.getElem?_eq_getElem (by omega)]
  exact hr.2.2.1 _ (List.getElem_mem _)
 rw [if_pos h]; exact .inl h
end Go.Proofs.YtnmaaijeamlplaaDoor.Bk
namespace Go.Proofs.YtnmaaijeamlplaaDoor.Bk
open Go.RowKit
open Go.Proofs.YtnmaaijeamlplaaDoor.Sym Go.Proofs.YtnmaaijeamlplaaDoor.Mem
open Go.Proofs.YtnmaaijeamlplaaDoor.Sx hiding Mm m_alloc m_store m_call m_callx
attribute [local irreducible] right_m rright_m ready_m rready_m copied_m burn_m put_m get_m flush_m spent_m rput_m rget_m rflush_m blank_m rnew_m same_m
attribute [local irreducible] number_m value_m fill_m
attribute [local irreducible] wpList Oper.wp
def beginning_m (epoch : Int) : (List UInt8) :=
 (fill_m ([72, 76, 79, 71] ++ (number_m epoch 8)))
theorem beginning_any (epoch : Int) (w : World)   : Calls Tryd.prog 31 #[J (epoch)] w (fun e w' => e = .returned (.string (tx (beginning_m epoch))) ∧ Below w.heap.size w w') := by
 go_enter Tryd.func31, Tryd.ntmps31
 have hm00 := Mm.nil none (fun _ => True) w
 have hm0 := hm00
 refine wk (fun K1 hK1 => (wq ?_))
 refine la 2 (.string (tx ([]))) ?_
 simp only [nz]
 refine wn (tj (hK1 _ _ (wk (fun K2 hK2 => (wq ?_)))))
 refine lm 3 (J (epoch)) ?_
 simp only [nz]
 refine lst rfl (m_call hm0 4 (.string (tx (number_m epoch 8))) rfl (run_number rfl rfl rfl) (number_any epoch 8  _  (by omega) (by omega)) (fun w3 hm4 => ?_))
 have hf5 : (((number_m epoch 8).length : Nat) : Int) = 8 := number_len epoch 8 (by omega) (by omega)
 simp only [nz]
 refine lw 5 (.string (tx ([72, 76, 79, 71] ++ (number_m epoch 8)))) (t_cat ([72, 76, 79, 71]) (number_m epoch 8) (by simp; omega) rfl rfl rfl) ?_
 simp only [nz]
 refine lst rfl (m_call hm4 6 (.string (tx (fill_m ([72, 76, 79, 71] ++ (number_m epoch 8))))) rfl (run_fill rfl rfl) (fill_any ([72, 76, 79, 71] ++ (number_m epoch 8))  _  (by simp; omega)) (fun w6 hm7 => ?_))
 have hf8 : (fill_m ([72, 76, 79, 71] ++ (number_m epoch 8))).length = 256 := rfill_len ([72, 76, 79, 71] ++ (number_m epoch 8)) (by simp; omega)
 simp only [nz]
 refine la 2 (.string (tx (fill_m ([72, 76, 79, 71] ++ (number_m epoch 8))))) ?_
 simp only [nz]
 refine wn (tj (hK2 _ _ (wp_ret ?_)))
 have he9 : beginning_m epoch = (fill_m ([72, 76, 79, 71] ++ (number_m epoch 8))) := by unfold beginning_m; rfl
 exact ⟨rfl, .string (tx (fill_m ([72, 76, 79, 71] ++ (number_m epoch 8)))), res_t rfl rfl, ⟨by (rw [he9]; try rfl), hm7.below⟩⟩
theorem run_beginning {o : Oper} {a : Act} {w : World} {x0 : Operand} {v0 : Value} (ho : o.op = .call { callee := .value (.func 31), args := #[x0], argTypes := #[3] }) (h0 : a.eval x0 = v0) :
  (execOp a.eval o).run Tryd.prog w = .ok (.enter 31 #[v0]) w := by
 unfold execOp
 simp only [ho]
 have hf : a.eval (.func 31) = .func (.func 31) #[] #[] := rfl
 generalize a.eval = f at *
 go_simp
def log_m (d : Dk) : Int :=
 (((d.safe.length / 4) : Nat) : Int)
theorem log_any (d : Dk) (dv0 : Value) (dv1 : Value) (w : World) (hd : DkR d dv0 dv1 w) (hp0 : d.safe.length ≤ 8796093022208) (hp1 : d.loose.length ≤ 5864070000000) : Calls Tryd.prog 13 #[.agg #[dv0, dv1, J (d.fuse), .bool (d.down)]] w (fun e w' => e = .returned (J ((log_m d))) ∧ Below w.heap.size w w') := by
 go_enter Tryd.func13, Tryd.ntmps13
 have hm00 := Mm.nil none (fun _ => True) w
 obtain ⟨Fd, hm01⟩ : ∃ Fd, Mm none (fun _ => True) w w [.see (DkR d dv0 dv1) Fd] := hm00.come (DkR_all hd)
 have hm0 := hm01
 refine wk (fun K1 hK1 => (wq ?_))
 refine lst rfl (m_alloc (c := #[dv0, dv1, J (d.fuse), .bool (d.down)]) (T := 25) hm0 1 rfl (run_box rfl rfl) (fun g4 w2 hm3 => ?_))
 simp only [nz]
 refine la 2 (J 0) ?_
 simp only [nz]
 refine wn (tj (hK1 _ _ (wk (fun K5 hK5 => (wq ?_)))))
 refine lw 3 (Pp g4 0) (r_fa25_0 g4 0 rfl rfl) ?_
 refine lw 4 (dv0) (r_load (hm3.at 1 rfl) rfl Tryd.underlying22 rfl rfl rfl) ?_
 refine lw 5 (J (d.safe.length : Int)) (s_len ((hm3.see 0 rfl).1) rfl Tryd.underlying22 rfl) ?_
 simp only [nz]
 refine lw 6 (J (((d.safe.length / 4) : Nat) : Int)) (r_quo d.safe.length 4 (show d.safe.length < 9223372036854775808 from by omega) (by decide) rfl rfl rfl) ?_
 refine la 2 (J (((d.safe.length / 4) : Nat) : Int)) ?_
 simp only [nz]
 refine wn (tj (hK5 _ _ (wp_ret ?_)))
 have he6 : log_m d = (((d.safe.length / 4) : Nat) : Int) := by unfold log_m; rfl
 exact ⟨rfl, J (((d.safe.length / 4) : Nat) : Int), res_t rfl rfl, ⟨by (rw [he6]; try rfl), hm3.below⟩⟩
theorem run_log {o : Oper} {a : Act} {w : World} {x0 : Operand} {v0 : Value} (ho : o.op = .call { callee := .value (.func 13), args := #[x0], argTypes := #[25] }) (h0 : a.eval x0 = v0) :
  (execOp a.eval o).run Tryd.prog w = .ok (.enter 13 #[v0]) w := by
 unfold execOp
 simp only [ho]
 have hf : a.eval (.func 13) = .func (.func 13) #[] #[] := rfl
 generalize a.eval = f at *
 go_simp
def lists_m (n : Int) : Int :=
 (((n + (61 : Int)) - (1 : Int)) / (61 : Int))
theorem lists_any (n : Int) (w : World)  (hp0 : 0 ≤ n) (hp1 : n ≤ 8796093022208) : Calls Tryd.prog 38 #[J (n)] w (fun e w' => e = .returned (J ((lists_m n))) ∧ Below w.heap.size w w') := by
 go_enter Tryd.func38, Tryd.ntmps38
 have hm00 := Mm.nil none (fun _ => True) w
 have hm0 := hm00
 refine wk (fun K1 hK1 => (wq ?_))
 refine la 2 (J 0) ?_
 simp only [nz]
 refine wn (tj (hK1 _ _ (wk (fun K2 hK2 => (wq ?_)))))
 refine lm 3 (J (n)) ?_
 refine lw 4 (J ((n + (61 : Int)))) (z_add n (61 : Int) _ (by rw [IntKind.wrap_i64]; omega) rfl rfl rfl) ?_
 refine lw 5 (J (((n + (61 : Int)) - (1 : Int)))) (z_sub (n + (61 : Int)) (1 : Int) _ (by rw [IntKind.wrap_i64]; omega) rfl rfl rfl) ?_
 simp only [nz]
 refine lw 6 (J ((((n + (61 : Int)) - (1 : Int)) / (61 : Int)))) (z_quo ((n + (61 : Int)) - (1 : Int)) (61 : Int) (((n + (61 : Int)) - (1 : Int)) / (61 : Int)) (by omega) (by rw [IntKind.wrap_i64, Int.tdiv_eq_ediv_of_nonneg (by omega)]; omega) rfl rfl rfl) ?_
 refine la 2 (J ((((n + (61 : Int)) - (1 : Int)) / (61 : Int)))) ?_
 simp only [nz]
 refine wn (tj (hK2 _ _ (wp_ret ?_)))
 have he3 : lists_m n = (((n + (61 : Int)) - (1 : Int)) / (61 : Int)) := by unfold lists_m; rfl
 exact ⟨rfl, J ((((n + (61 : Int)) - (1 : Int)) / (61 : Int))), res_t rfl rfl, ⟨by (rw [he3]; try rfl), hm0.below⟩⟩
theorem run_lists {o : Oper} {a : Act} {w : World} {x0 : Operand} {v0 : Value} (ho : o.op = .call { callee := .value (.func 38), args := #[x0], argTypes := #[3] }) (h0 : a.eval x0 = v0) :
  (execOp a.eval o).run Tryd.prog w = .ok (.enter 38 #[v0]) w := by
 unfold execOp
 simp only [ho]
 have hf : a.eval (.func 38) = .func (.func 38) #[] #[] := rfl
 generalize a.eval = f at *
 go_simp
theorem lists_is (n : Int) : lists_m n = (n + 60) / 61 := by
 unfold lists_m
 omega
def fits_m (d : Dk) (n : Int) : Bool :=
 if 0 ≤ n then
  if n ≤ ((d.safe.length : Nat) : Int) then
   (decide ((((lists_m n) + n) + (2 : Int)) ≤ (log_m d)))
  else
   false
 else
  false
theorem fits_any (d : Dk) (n : Int) (dv0 : Value) (dv1 : Value) (w : World) (hd : DkR d dv0 dv1 w) (hp0 : d.safe.length ≤ 8796093022208) (hp1 : d.loose.length ≤ 5864070000000) : Calls Tryd.prog 15 #[.agg #[dv0, dv1, J (d.fuse), .bool (d.down)], J (n)] w (fun e w' => e = .returned (.bool ((fits_m d n))) ∧ Below w.heap.size w w') := by
 go_enter Tryd.func15, Tryd.ntmps15
 have hm00 := Mm.nil none (fun _ => True) w
 obtain ⟨Fd, hm01⟩ : ∃ Fd, Mm none (fun _ => True) w w [.see (DkR d dv0 dv1) Fd] := hm00.come (DkR_all hd)
 have hm0 := hm01
 refine wk (fun K1 hK1 => (wq ?_))
 refine lst rfl (m_alloc (c := #[dv0, dv1, J (d.fuse), .bool (d.down)]) (T := 25) hm0 2 rfl (run_box rfl rfl) (fun g4 w2 hm3 => ?_))
 simp only [nz]
 refine la 4 (.bool false) ?_
 simp only [nz]
 refine wn (tj (hK1 _ _ (wk (fun K5 hK5 => ?_))))
 have hm6 := hm3.drew
 refine wp_region_held_drew (S := fun w' => Mem.Blk w' g4 (#[dv0, dv1, J (d.fuse), .bool (d.down)]) 25) (by kernel_rfl) (hm6.at 1 rfl) (fun _ => ?_)
 generalize w2.drew = w7 at *
 refine tk 0 5 (J (n)) rfl rfl (fun _ hw => run_mv rfl rfl) (hm6.at 1 rfl) ?_
 simp only [nz]
 refine tkb 1 6 (0 ≤ n) rfl rfl rfl (fun _ hw => z_geq n 0 rfl rfl rfl) (hm6.at 1 rfl) (fun hs8 => ?_) (fun hs8 => ?_)
 rotate_left
 ·simp only [nz]
  refine tk 2 7 (.bool false) rfl rfl (fun _ hw => run_mv rfl rfl) (hm6.at 1 rfl) ?_
  simp only [nz]
  refine skx 3 8 rfl rfl rfl (hm6.at 1 rfl) ?_
  simp only [nz]
  refine skx 4 9 rfl rfl rfl (hm6.at 1 rfl) ?_
  simp only [nz]
  refine skx 5 10 rfl rfl rfl (hm6.at 1 rfl) ?_
  simp only [nz]
  refine skx 6 11 rfl rfl rfl (hm6.at 1 rfl) ?_
  simp only [nz]
  refine skx 7 12 rfl rfl rfl (hm6.at 1 rfl) ?_
  simp only [nz]
  refine tk 8 13 (.bool false) rfl rfl (fun _ hw => run_pickf rfl rfl rfl) (hm6.at 1 rfl) ?_
  simp only [nz]
  refine tk 9 14 (.bool false) rfl rfl (fun _ hw => run_mv rfl rfl) (hm6.at 1 rfl) ?_
  simp only [nz]
  refine skx 10 15 rfl rfl rfl (hm6.at 1 rfl) ?_
  simp only [nz]
  refine skx 11 16 rfl rfl rfl (hm6.at 1 rfl) ?_
  simp only [nz]
  refine skx 12 17 rfl rfl rfl (hm6.at 1 rfl) ?_
  simp only [nz]
  refine skx 13 18 rfl rfl rfl (hm6.at 1 rfl) ?_
  simp only [nz]
  refine skx 14 19 rfl rfl rfl (hm6.at 1 rfl) ?_
  simp only [nz]
  refine skx 15 20 rfl rfl rfl (hm6.at 1 rfl) ?_
  simp only [nz]
  refine skx 16 21 rfl rfl rfl (hm6.at 1 rfl) ?_
  simp only [nz]
  refine skx 17 22 rfl rfl rfl (hm6.at 1 rfl) ?_
  simp only [nz]
  refine tk 18 23 (.bool false) rfl rfl (fun _ hw => run_pickf rfl rfl rfl) (hm6.at 1 rfl) ?_
  simp only [nz]
  refine one_ready 19 (by kernel_rfl) ?_
  refine opd rfl (wanted_none rfl) (w_value 4 (.bool false) rfl (run_as rfl rfl) ⟨hm6.at 1 rfl, ?_⟩)
  simp only [nz]
  refine wpAnyH_done (by kernel_rfl) ?_ _
  refine tj (hK5 _ _ (wp_ret ?_))
  have he17 : fits_m d n = false := by unfold fits_m; rw [if_neg hs8] <;> rfl
  exact ⟨rfl, .bool false, res_t rfl rfl, ⟨by (rw [he17]; try rfl), hm6.below⟩⟩
 simp only [nz]
 refine tk 2 7 (.bool true) rfl rfl (fun _ hw => run_mv rfl rfl) (hm6.at 1 rfl) ?_
 simp only [nz]
 refine Sym.take_at 3 8 (J (n)) rfl rfl (by kernel_rfl) (by kernel_rfl) (by kernel_rfl) (fun _ _ _ h => h) rfl (fun _ hw => run_mv rfl rfl) (hm6.at 1 rfl) ?_
 simp only [nz]
 refine Sym.take_at 4 9 (Pp g4 0) rfl rfl (by kernel_rfl) (by kernel_rfl) (by kernel_rfl) (fun _ _ _ h => h) rfl (fun _ hw => r_fa25_0 g4 0 rfl rfl) (hm6.at 1 rfl) ?_
 simp only [nz]
 refine Sym.take_at 5 10 (dv0) rfl rfl (by kernel_rfl) (by kernel_rfl) (by kernel_rfl) (fun _ _ _ h => h) rfl (fun _ hw => r_load hw rfl Tryd.underlying22 rfl rfl rfl) (hm6.at 1 rfl) ?_
 simp only [nz]
 refine Sym.take_at 6 11 (J (d.safe.length : Int)) rfl rfl (by kernel_rfl) (by kernel_rfl) (by kernel_rfl) (fun _ _ _ h => h) rfl (fun _ hw => s_len ((hm6.see 0 rfl).1) rfl Tryd.underlying22 rfl) (hm6.at 1 rfl) ?_
 simp only [nz]
 refine tkb 7 12 (n ≤ (d.safe.length : Int)) rfl rfl rfl (fun _ hw => z_leq n (d.safe.length : Int) rfl rfl rfl) (hm6.at 1 rfl) (fun hs9 => ?_) (fun hs9 => ?_)
 rotate_left
 ·simp only [nz]
  refine tk 8 13 (.bool false) rfl rfl (fun _ hw => run_pick rfl rfl rfl) (hm6.at 1 rfl) ?_
  simp only [nz]
  refine tk 9 14 (.bool false) rfl rfl (fun _ hw => run_mv rfl rfl) (hm6.at 1 rfl) ?_
  simp only [nz]
  refine skx 10 15 rfl rfl rfl (hm6.at 1 rfl) ?_
  simp only [nz]
  refine skx 11 16 rfl rfl rfl (hm6.at 1 rfl) ?_
  simp only [nz]
  refine skx 12 17 rfl rfl rfl (hm6.at 1 rfl) ?_
  simp only [nz]
  refine skx 13 18 rfl rfl rfl (hm6.at 1 rfl) ?_
  simp only [nz]
  refine skx 14 19 rfl rfl rfl (hm6.at 1 rfl) ?_
  simp only [nz]
  refine skx 15 20 rfl rfl rfl (hm6.at 1 rfl) ?_
  simp only [nz]
  refine skx 16 21 rfl rfl rfl (hm6.at 1 rfl) ?_
  simp only [nz]
  refine skx 17 22 rfl rfl rfl (hm6.at 1 rfl) ?_
  simp only [nz]
  refine tk 18 23 (.bool false) rfl rfl (fun _ hw => run_pickf rfl rfl rfl) (hm6.at 1 rfl) ?_
  simp only [nz]
  refine one_ready 19 (by kernel_rfl) ?_
  refine opd rfl (wanted_none rfl) (w_value 4 (.bool false) rfl (run_as rfl rfl) ⟨hm6.at 1 rfl, ?_⟩)
  simp only [nz]
  refine wpAnyH_done (by kernel_rfl) ?_ _
  refine tj (hK5 _ _ (wp_ret ?_))
  have he16 : fits_m d n = false := by unfold fits_m; rw [if_pos hs8, if_neg hs9] <;> rfl
  exact ⟨rfl, .bool false, res_t rfl rfl, ⟨by (rw [he16]; try rfl), hm6.below⟩⟩
 simp only [nz]
 refine tk 8 13 (.bool true) rfl rfl (fun _ hw => run_pick rfl rfl rfl) (hm6.at 1 rfl) ?_
 simp only [nz]
 refine tk 9 14 (.bool true) rfl rfl (fun _ hw => run_mv rfl rfl) (hm6.at 1 rfl) ?_
 simp only [nz]
 refine Sym.take_at 10 15 (J (n)) rfl rfl (by kernel_rfl) (by kernel_rfl) (by kernel_rfl) (fun _ _ _ h => h) rfl (fun _ hw => run_mv rfl rfl) (hm6.at 1 rfl) ?_
 simp only [nz]
 refine Sym.take_at 12 17 (J (n)) rfl rfl (by kernel_rfl) (by kernel_rfl) (by kernel_rfl) (fun _ _ _ h => h) rfl (fun _ hw => run_mv rfl rfl) (hm6.at 1 rfl) ?_
 simp only [nz]
 refine Sym.take_at 15 20 (.agg #[dv0, dv1, J (d.fuse), .bool (d.down)]) rfl rfl (by kernel_rfl) (by kernel_rfl) (by kernel_rfl) (fun _ _ _ h => h) rfl (fun _ hw => r_whole hw Tryd.underlying25 rfl (by exact sz_25) rfl rfl) (hm6.at 1 rfl) ?_
 simp only [nz]
 refine one_ready 11 (by kernel_rfl) ?_
 refine opd rfl rfl (m_call hm6 16 (J ((lists_m n))) rfl (run_lists rfl rfl) (lists_any n  _  (by omega) (by omega)) (fun w10 hm11 => ?_))
 have hf12 : (lists_m n) = (n + 60) / 61 := lists_is n
 refine ⟨hm11.at 1 rfl, ?_⟩
 simp only [nz]
 refine Sym.take_at 13 18 (J (((lists_m n) + n))) rfl rfl (by kernel_rfl) (by kernel_rfl) (by kernel_rfl) (fun _ _ _ h => h) rfl (fun _ hw => z_add (lists_m n) n _ (by rw [IntKind.wrap_i64]; omega) rfl rfl rfl) (hm11.at 1 rfl) ?_
 simp only [nz]
 refine Sym.take_at 14 19 (J ((((lists_m n) + n) + (2 : Int)))) rfl rfl (by kernel_rfl) (by kernel_rfl) (by kernel_rfl) (fun _ _ _ h => h) rfl (fun _ hw => z_add ((lists_m n) + n) (2 : Int) _ (by rw [IntKind.wrap_i64]; omega) rfl rfl rfl) (hm11.at 1 rfl) ?_
 simp only [nz]
 refine one_ready 16 (by kernel_rfl) ?_
 refine opd rfl rfl (m_call hm11 21 (J ((log_m d))) rfl (run_log rfl rfl) (log_any d dv0 dv1 _ (hm11.see 0 rfl) (by omega) (by omega)) (fun w13 hm14 => ?_))
 refine ⟨hm14.at 1 rfl, ?_⟩
 simp only [nz]
 refine Sym.take_at 17 22 (.bool (decide ((((lists_m n) + n) + (2 : Int)) ≤ (log_m d)))) rfl rfl (by kernel_rfl) (by kernel_rfl) (by kernel_rfl) (fun _ _ _ h => h) rfl (fun _ hw => z_leq (((lists_m n) + n) + (2 : Int)) (log_m d) rfl rfl rfl) (hm14.at 1 rfl) ?_
 simp only [nz]
 refine tk 18 23 (.bool (decide ((((lists_m n) + n) + (2 : Int)) ≤ (log_m d)))) rfl rfl (fun _ hw => run_pick rfl rfl rfl) (hm14.at 1 rfl) ?_
 simp only [nz]
 refine one_ready 19 (by kernel_rfl) ?_
 refine opd rfl (wanted_none rfl) (w_value 4 (.bool (decide ((((lists_m n) + n) + (2 : Int)) ≤ (log_m d)))) rfl (run_as rfl rfl) ⟨hm14.at 1 rfl, ?_⟩)
 simp only [nz]
 refine wpAnyH_done (by kernel_rfl) ?_ _
 refine tj (hK5 _ _ (wp_ret ?_))
 have he15 : fits_m d n = (decide ((((lists_m n) + n) + (2 : Int)) ≤ (log_m d))) := by unfold fits_m; rw [if_pos hs8, if_pos hs9] <;> rfl
 exact ⟨rfl, .bool (decide ((((lists_m n) + n) + (2 : Int)) ≤ (log_m d))), res_t rfl rfl, ⟨by (rw [he15]; try rfl), hm14.below⟩⟩
theorem run_fits {o : Oper} {a : Act} {w : World} {x0 x1 : Operand} {v0 v1 : Value} (ho : o.op = .call { callee := .value (.func 15), args := #[x0, x1], argTypes := #[25, 3] }) (h0 : a.eval x0 = v0) (h1 : a.eval x1 = v1) :
  (execOp a.eval o).run Tryd.prog w = .ok (.enter 15 #[v0, v1]) w := by
 unfold execOp
 simp only [ho]
 have hf : a.eval (.func 15) = .func (.func 15) #[] #[] := rfl
 generalize a.eval = f at *
 go_simp
def epoch_m (d : Dk) : Int × Bool :=
 if ¬ (get_m d 0).2 = 0 then
  (0, false)
 else
  if ¬ (((get_m d 0).1).take 4) = [72, 76, 79, 71] then
   (0, false)
  else
   if 1 ≤ (value_m ((((get_m d 0).1).take 12).drop 4)) then
    ((value_m ((((get_m d 0).1).take 12).drop 4)), (decide ((get_m d 0).1 = (beginning_m (value_m ((((get_m d 0).1).take 12).drop 4))))))
   else
    ((value_m ((((get_m d 0).1).take 12).drop 4)), false)
theorem epoch_any (d : Dk) (dv0 : Value) (dv1 : Value) (w : World) (hd : DkR d dv0 dv1 w) (hp0 : d.safe.length ≤ 8796093022208) (hp1 : d.loose.length ≤ 5864070000000) : Calls Tryd.prog 8 #[.agg #[dv0, dv1, J (d.fuse), .bool (d.down)]] w (fun e w' => e = .returned (.tuple #[J ((epoch_m d).1), .bool ((epoch_m d).2)]) ∧ Below w.heap.size w w') := by
 go_enter Tryd.func8, Tryd.ntmps8
 have hm00 := Mm.nil none (fun _ => True) w
 obtain ⟨Fd, hm01⟩ : ∃ Fd, Mm none (fun _ => True) w w [.see (DkR d dv0 dv1) Fd] := hm00.come (DkR_all hd)
 have hm0 := hm01
 refine wk (fun K1 hK1 => (wq ?_))
 refine lst rfl (m_alloc (c := #[dv0, dv1, J (d.fuse), .bool (d.down)]) (T := 25) hm0 1 rfl (run_box rfl rfl) (fun g4 w2 hm3 => ?_))
 simp only [nz]
 refine la 2 (J 0) ?_
 refine la 3 (.bool false) ?_
 simp only [nz]
 refine wn (tj (hK1 _ _ (wk (fun K5 hK5 => (wq ?_)))))
 refine lw 8 (.agg #[dv0, dv1, J (d.fuse), .bool (d.down)]) (r_whole (hm3.at 1 rfl) Tryd.underlying25 rfl (by exact sz_25) rfl rfl) ?_
 simp only [nz]
 refine lst rfl (m_call hm3 9 (.tuple #[.string (tx ((get_m d 0).1)), J ((get_m d 0).2)]) rfl (run_get rfl rfl rfl) (get_any d 0 dv0 dv1 _ (hm3.see 0 rfl) (by omega) (by omega)) (fun w6 hm7 => ?_))
 have hf8 : ¬ (get_m d 0).2 = 0 ∨ (get_m d 0).1.length = 256 := get_len d 0
 simp only [nz]
 refine lm 7 (.tuple #[.string (tx ((get_m d 0).1)), J ((get_m d 0).2)]) ?_
 refine lw 10 (.string (tx ((get_m d 0).1))) (run_ex rfl rfl rfl) ?_
 refine lw 11 (J ((get_m d 0).2)) (run_ex rfl rfl rfl) ?_
 simp only [nz]
 refine la 4 (.string (tx ((get_m d 0).1))) ?_
 refine la 5 (J ((get_m d 0).2)) ?_
 simp only [nz]
 refine wn (tj (hK5 _ _ (wk (fun K9 hK9 => (wk (fun K10 hK10 => (wq ?_)))))))
 refine lm 12 (J ((get_m d 0).2)) ?_
 simp only [nz]
 refine lvb 13 (¬ (get_m d 0).2 = 0) rfl rfl (z_neq ((get_m d 0).2) 0 rfl rfl rfl) (fun hs11 => ?_) (fun hs11 => ?_)
 ·simp only [nz]
  refine lm 14 (.bool true) ?_
  simp only [nz]
  refine lst_skip 15 rfl rfl ?_
  simp only [nz]
  refine lst_skip 16 rfl rfl ?_
  simp only [nz]
  refine lst_skip 17 rfl rfl ?_
  simp only [nz]
  refine lw 18 (.bool true) (run_pick rfl rfl rfl) ?_
  simp only [nz]
  refine wn (tj (hK10 _ _ ?_))
  refine cond_t rfl ?_
  refine wk (fun K12 hK12 => (wq ?_))
  refine la 2 (J 0) ?_
  refine la 3 (.bool false) ?_
  simp only [nz]
  refine wn (tj (hK12 _ _ (wp_ret (then_r ?_))))
  have he13 : epoch_m d = (0, false) := by unfold epoch_m; rw [if_pos hs11] <;> rfl
  exact ⟨rfl, .tuple #[J 0, .bool false], res_tt rfl rfl rfl, ⟨by (rw [he13]; try rfl), hm7.below⟩⟩
 simp only [nz]
 refine lm 14 (.bool false) ?_
 refine lm 15 (.string (tx ((get_m d 0).1))) ?_
 refine lw 16 (.string (tx (((get_m d 0).1).take 4))) (t_to ((get_m d 0).1) 4 (by omega) Tryd.underlying9 rfl rfl rfl) ?_
 simp only [nz]
 refine lw 17 (.bool (decide (¬ (((get_m d 0).1).take 4) = [72, 76, 79, 71]))) (t_neq (((get_m d 0).1).take 4) ([72, 76, 79, 71]) rfl rfl rfl) ?_
 refine lw 18 (.bool (decide (¬ (((get_m d 0).1).take 4) = [72, 76, 79, 71]))) (run_pickf rfl rfl rfl) ?_
 simp only [nz]
 refine wn (tj (hK10 _ _ ?_))
 refine cond_d (¬ (((get_m d 0).1).take 4) = [72, 76, 79, 71]) rfl (fun hc14 => ?_) (fun hc14 => ?_)
 ·refine wk (fun K15 hK15 => (wq ?_))
  refine la 2 (J 0) ?_
  refine la 3 (.bool false) ?_
  simp only [nz]
  refine wn (tj (hK15 _ _ (wp_ret (then_r ?_))))
  have he16 : epoch_m d = (0, false) := by unfold epoch_m; rw [if_neg hs11, if_pos hc14] <;> rfl
  exact ⟨rfl, .tuple #[J 0, .bool false], res_tt rfl rfl rfl, ⟨by (rw [he16]; try rfl), hm7.below⟩⟩
 refine wp_skip (tj (hK9 _ _ (wk (fun K17 hK17 => (wq ?_)))))
 refine lm 19 (.string (tx ((get_m d 0).1))) ?_
 refine lw 20 (.string (tx ((((get_m d 0).1).take 12).drop 4))) (t_cut ((get_m d 0).1) 4 12 (by omega) (by omega) Tryd.underlying9 rfl rfl rfl rfl) ?_
 simp only [nz]
 refine lst rfl (m_call hm7 21 (J ((value_m ((((get_m d 0).1).take 12).drop 4)))) rfl (run_value rfl rfl) (value_any ((((get_m d 0).1).take 12).drop 4)  _  (by rw [List.length_drop, List.length_take]; omega)) (fun w18 hm19 => ?_))
 simp only [nz]
 refine la 6 (J ((value_m ((((get_m d 0).1).take 12).drop 4)))) ?_
 simp only [nz]
 refine wn (tj (hK17 _ _ (wk (fun K20 hK20 => (wq ?_)))))
 refine lm 22 (J ((value_m ((((get_m d 0).1).take 12).drop 4)))) ?_
 refine lm 23 (J ((value_m ((((get_m d 0).1).take 12).drop 4)))) ?_
 simp only [nz]
 refine lvb 24 (1 ≤ (value_m ((((get_m d 0).1).take 12).drop 4))) rfl rfl (z_geq (value_m ((((get_m d 0).1).take 12).drop 4)) 1 rfl rfl rfl) (fun hs21 => ?_) (fun hs21 => ?_)
 ·simp only [nz]
  refine lm 25 (.bool true) ?_
  refine lm 26 (.string (tx ((get_m d 0).1))) ?_
  refine lm 27 (J ((value_m ((((get_m d 0).1).take 12).drop 4)))) ?_
  simp only [nz]
  refine lst rfl (m_call hm19 28 (.string (tx (beginning_m (value_m ((((get_m d 0).1).take 12).drop 4))))) rfl (run_beginning rfl rfl) (beginning_any (value_m ((((get_m d 0).1).take 12).drop 4))  _  ) (fun w22 hm23 => ?_))
  simp only [nz]
  refine lw 29 (.bool (decide ((get_m d 0).1 = (beginning_m (value_m ((((get_m d 0).1).take 12).drop 4)))))) (t_eql ((get_m d 0).1) (beginning_m (value_m ((((get_m d 0).1).take 12).drop 4))) rfl rfl rfl) ?_
  refine lw 30 (.bool (decide ((get_m d 0).1 = (beginning_m (value_m ((((get_m d 0).1).take 12).drop 4)))))) (run_pick rfl rfl rfl) ?_
  refine la 2 (J ((value_m ((((get_m d 0).1).take 12).drop 4)))) ?_
  simp only [nz]
  refine la 3 (.bool (decide ((get_m d 0).1 = (beginning_m (value_m ((((get_m d 0).1).take 12).drop 4)))))) ?_
  simp only [nz]
  refine wn (tj (hK20 _ _ (wp_ret ?_)))
  have he24 : epoch_m d = ((value_m ((((get_m d 0).1).take 12).drop 4)), (decide ((get_m d 0).1 = (beginning_m (value_m ((((get_m d 0).1).take 12).drop 4)))))) := by unfold epoch_m; rw [if_neg hs11, if_neg hc14, if_pos hs21] <;> rfl
  exact ⟨rfl, .tuple #[J ((value_m ((((get_m d 0).1).take 12).drop 4))), .bool (decide ((get_m d 0).1 = (beginning_m (value_m ((((get_m d 0).1).take 12).drop 4)))))], res_tt rfl rfl rfl, ⟨by (rw [he24]; try rfl), hm23.below⟩⟩
 simp only [nz]
 refine lm 25 (.bool false) ?_
 simp only [nz]
 refine lst_skip 26 rfl rfl ?_
 simp only [nz]
 refine lst_skip 27 rfl rfl ?_
 simp only [nz]
 refine lst_skip 28 rfl rfl ?_
 simp only [nz]
 refine lst_skip 29 rfl rfl ?_
 simp only [nz]
 refine lw 30 (.bool false) (run_pickf rfl rfl rfl) ?_
 refine la 2 (J ((value_m ((((get_m d 0).1).take 12).drop 4)))) ?_
 refine la 3 (.bool false) ?_
 simp only [nz]
 refine wn (tj (hK20 _ _ (wp_ret ?_)))
 have he25 : epoch_m d = ((value_m ((((get_m d 0).1).take 12).drop 4)), false) := by unfold epoch_m; rw [if_neg hs11, if_neg hc14, if_neg hs21] <;> rfl
 exact ⟨rfl, .tuple #[J ((value_m ((((get_m d 0).1).take 12).drop 4))), .bool false], res_tt rfl rfl rfl, ⟨by (rw [he25]; try rfl), hm19.below⟩⟩
theorem run_epoch {o : Oper} {a : Act} {w : World} {x0 : Operand} {v0 : Value} (ho : o.op = .call { callee := .value (.func 8), args := #[x0], argTypes := #[25] }) (h0 : a.eval x0 = v0) :
  (execOp a.eval o).run Tryd.prog w = .ok (.enter 8 #[v0]) w := by
 unfold execOp
 simp only [ho]
 have hf : a.eval (.func 8) = .func (.func 8) #[] #[] := rfl
 generalize a.eval = f at *
 go_simp
end Go.Proofs.YtnmaaijeamlplaaDoor.Bk
