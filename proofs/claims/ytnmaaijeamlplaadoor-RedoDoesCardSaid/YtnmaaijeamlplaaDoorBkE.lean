import Derived.Test.YtnmaaijeamlplaaDoorBkT
import Derived.Test.YtnmaaijeamlplaaDoorBkB
import Derived.Test.YtnmaaijeamlplaaDoorBkM
import Derived.Test.YtnmaaijeamlplaaDoorBkC
import Derived.Test.YtnmaaijeamlplaaDoorBkD
set_option linter.unusedVariables false
set_option linter.unusedSimpArgs false
set_option maxHeartbeats 4000000
set_option maxRecDepth 100000
namespace Go.Proofs.YtnmaaijeamlplaaDoor.Bk
open Go.RowKit
open Go.Proofs.YtnmaaijeamlplaaDoor.Sym Go.Proofs.YtnmaaijeamlplaaDoor.Mem
open Go.Proofs.YtnmaaijeamlplaaDoor.Sx hiding Mm m_alloc m_store m_call m_callx
attribute [local irreducible] wpList Oper.wp
def blank_m_b0 (rec : (List UInt8) → Sum ((List UInt8)) ((List UInt8))) (x4 : List UInt8) : Sum ((List UInt8)) ((List UInt8)) :=
 if x4.length < 256 then
  rec (x4 ++ x4)
 else
  .inl x4
def blank_m_l0 : Nat → (List UInt8) → Sum ((List UInt8)) ((List UInt8))
 | 0, zz => .inl zz
 | nq + 1, zz => blank_m_b0 (blank_m_l0 nq) zz
def blank_m_k0 (y8 : List UInt8) : (List UInt8) :=
 y8
def blank_m : (List UInt8) :=
 fin (blank_m_l0 ((256 - ([0]).length) + 1) ([0])) (fun r => r) (fun zz => blank_m_k0 zz)
theorem blank_any (w : World)   : Calls Tryd.prog 64 #[] w (fun e w' => e = .returned (.string (tx blank_m)) ∧ Below w.heap.size w w') := by
 go_enter Tryd.func64, Tryd.ntmps64
 have hm00 := Mm.nil none (fun _ => True) w
 have hm0 := hm00
 refine wk (fun K1 hK1 => (wq ?_))
 refine la 0 (.string (tx ([]))) ?_
 simp only [nz1, nz2]
 refine wn (tj (hK1 _ _ (wk (fun K2 hK2 => (wq ?_)))))
 refine la 1 (.string (tx ([0]))) ?_
 simp only [nz]
 refine wn (tj (hK2 _ _ (wk (fun K3 hK3 => ?_))))
 refine wp_cutK (fun a' w' => ∃ (y8 : List UInt8) (yu0 : Nat → Value), blank_m_l0 ((256 - ([0]).length) + 1) ([0]) = .inl y8 ∧ (1 ≤ y8.length) ∧ a' = ⟨#[.string (tx ([])), .string (tx y8), yu0 0, yu0 1, yu0 2, yu0 3, yu0 4, yu0 5, undef], []⟩ ∧ Mm none (fun _ => True) w w' []) ?_ ?_
 ·refine wp_block ?_
  refine wp_loop_n (fun n' a' w' => ∃ (n5 : Nat) (x4 : List UInt8) (u0 : Nat → Value), n' = n5 ∧ (256 - x4.length) < n5 ∧ blank_m_l0 ((256 - ([0]).length) + 1) ([0]) = blank_m_l0 n5 x4 ∧ (1 ≤ x4.length) ∧ a' = ⟨#[.string (tx ([])), .string (tx x4), u0 0, u0 1, u0 2, u0 3, u0 4, u0 5, undef], []⟩ ∧ Mm none (fun _ => True) w w' []) ⟨((256 - ([0]).length) + 1), ([0]), (fun qq => List.getD [undef, undef, undef, undef, undef, undef] qq undef), rfl, Nat.lt_succ_self _, rfl, (by decide), rfl, hm0⟩ ?_
  rintro n5 _ w10 ⟨_, x4, u0, rfl, hl14, hi7, hbl, rfl, hm11⟩ R12 hR12
  obtain ⟨k6, rfl⟩ : ∃ k, n5 = k + 1 := ⟨n5 - 1, by omega⟩
  refine wk (fun K15 hK15 => (wk (fun K16 hK16 => (wq ?_))))
  refine lm 2 (.string (tx x4)) ?_
  refine lw 3 (J (x4.length : Int)) (t_len rfl Tryd.underlying9 rfl) ?_
  refine lw 4 (.bool (decide (x4.length < 256))) (r_lss x4.length 256 rfl rfl rfl) ?_
  simp only [nz]
  refine wn (tj (hK16 _ _ ?_))
  refine cond_d (x4.length < 256) rfl (fun hc17 => ?_) (fun hc17 => ?_)
  rotate_left
  ·refine wp_exit (then_x (then_x (blk_x ?_)))
   refine tj ?_
   exact ⟨x4, (fun qq => List.getD [.string (tx x4), J (x4.length : Int), .bool (decide (x4.length < 256)), u0 3, u0 4, u0 5] qq undef), (hi7.trans (show blank_m_b0 (blank_m_l0 k6) x4 = .inl x4 from by unfold blank_m_b0; rw [if_neg hc17] <;> rfl)), hbl, rfl, hm11⟩
  refine wp_skip (tj (hK15 _ _ ?_))
  refine wp_block ?_
  refine wq ?_
  refine lm 5 (.string (tx x4)) ?_
  refine lm 6 (.string (tx x4)) ?_
  refine lw 7 (.string (tx (x4 ++ x4))) (t_cat x4 x4 (by omega) rfl rfl rfl) ?_
  simp only [nz]
  refine la 1 (.string (tx (x4 ++ x4))) ?_
  simp only [nz]
  refine wn (blk_n ?_)
  refine tj (hR12 _ _ _ ⟨k6, (x4 ++ x4), (fun qq => List.getD [.string (tx x4), J (x4.length : Int), .bool (decide (x4.length < 256)), .string (tx x4), .string (tx x4), .string (tx (x4 ++ x4))] qq undef), rfl, (by rw [List.length_append]; omega), (hi7.trans (show blank_m_b0 (blank_m_l0 k6) x4 = blank_m_l0 k6 (x4 ++ x4) from by unfold blank_m_b0; rw [if_pos hc17] <;> rfl)), (by rw [List.length_append]; omega), rfl, hm11⟩ ?_)
  omega
 rintro _ w18 ⟨y8, yu0, hx9, hbl, rfl, hm19⟩
 have hq20 : blank_m = blank_m_k0 y8 := (show blank_m = blank_m_k0 y8 from by unfold blank_m; rw [hx9] <;> rfl)
 refine tj (hK3 _ _ (wk (fun K21 hK21 => (wq ?_))))
 refine lm 8 (.string (tx y8)) ?_
 refine la 0 (.string (tx y8)) ?_
 simp only [nz1, nz2]
 refine wn (tj (hK21 _ _ (wp_ret ?_)))
 have he22 : blank_m = y8 := (hq20.trans (show blank_m_k0 y8 = y8 from by unfold blank_m_k0; rfl))
 exact ⟨rfl, .string (tx y8), res_t rfl rfl, ⟨by (rw [he22]; try rfl), hm19.below⟩⟩
theorem run_blank {o : Oper} {a : Act} {w : World} (ho : o.op = .call { callee := .value (.func 64), args := #[], argTypes := #[] })  :
  (execOp a.eval o).run Tryd.prog w = .ok (.enter 64 #[]) w := by
 unfold execOp
 simp only [ho]
 have hf : a.eval (.func 64) = .func (.func 64) #[] #[] := rfl
 generalize a.eval = f at *
 go_simp
def sector_m_b0 (c : UInt8) (rec : Nat × (List UInt8) → Sum (Nat × (List UInt8)) ((List UInt8))) (x8 : Nat) (l9 : List UInt8) : Sum (Nat × (List UInt8)) ((List UInt8)) :=
 if x8 < l9.length then
  rec ((x8 + 1), (l9.set x8 c))
 else
  .inl (x8, l9)
def sector_m_l0 (c : UInt8) : Nat → Nat × (List UInt8) → Sum (Nat × (List UInt8)) ((List UInt8))
 | 0, zz => .inl zz
 | nq + 1, zz => sector_m_b0 c (sector_m_l0 c nq) zz.1 zz.2
def sector_m_k0 (c : UInt8) (y13 : Nat) (y14 : List UInt8) : (List UInt8) :=
 y14
def sector_m (c : UInt8) : (List UInt8) :=
 fin (sector_m_l0 c (((List.replicate 256 (0 : UInt8)).length - 0) + 1) (0, (List.replicate 256 (0 : UInt8)))) (fun r => r) (fun zz => sector_m_k0 c zz.1 zz.2)
theorem sector_any (c : UInt8) (w : World)   : Calls Tryd.prog 28 #[.int .u8 ((c.toNat : Nat) : Int)] w (fun e w' => e = .returned (.string (tx (sector_m c))) ∧ Below w.heap.size w w') := by
 go_enter Tryd.func28, Tryd.ntmps28
 have hm00 := Mm.nil none (fun _ => True) w
 have hm0 := hm00
 refine wk (fun K1 hK1 => (wq ?_))
 refine la 2 (.string (tx ([]))) ?_
 simp only [nz]
 refine wn (tj (hK1 _ _ (wk (fun K2 hK2 => (wq ?_)))))
 obtain ⟨iq, hiq, hz1, hz2, hz3⟩ := inf_5
 refine lst rfl (m_makeR (enc := eB) (size := 1) 256 (0 : UInt8) iq _ hm0 5 rfl rfl Tryd.underlying43 hiq hz1 hz2 hz3 eB_len rfl rfl rfl (by omega) (by omega) (fun v5 w3 hm4 => ?_))
 simp only [nz]
 refine la 3 (v5) ?_
 simp only [nz]
 refine wn (tj (hK2 _ _ (wk (fun K6 hK6 => (wk (fun K7 hK7 => (wq ?_)))))))
 refine la 4 (J 0) ?_
 simp only [nz]
 refine wn (tj (hK7 _ _ ?_))
 refine wp_cutK (fun a' w' => ∃ (y13 : Nat) (y14 : List UInt8) (yu0 : Nat → Value), sector_m_l0 c (((List.replicate 256 (0 : UInt8)).length - 0) + 1) (0, (List.replicate 256 (0 : UInt8))) = .inl (y13, y14) ∧ (y14.length = 256) ∧ a' = ⟨#[.int .u8 (c.toNat : Int), undef, .string (tx ([])), v5, J (y13 : Int), v5, yu0 0, yu0 1, yu0 2, yu0 3, yu0 4, yu0 5, yu0 6, yu0 7, yu0 8, yu0 9, undef, undef], []⟩ ∧ Mm none (fun _ => True) w w' [.row v5 y14.length (y14.flatMap eB) 5 1]) ?_ ?_
 ·refine wp_block ?_
  refine wp_loop_n (fun n' a' w' => ∃ (n10 : Nat) (x8 : Nat) (l9 : List UInt8) (u0 : Nat → Value), n' = n10 ∧ (l9.length - x8) < n10 ∧ sector_m_l0 c (((List.replicate 256 (0 : UInt8)).length - 0) + 1) (0, (List.replicate 256 (0 : UInt8))) = sector_m_l0 c n10 (x8, l9) ∧ (l9.length = 256) ∧ a' = ⟨#[.int .u8 (c.toNat : Int), undef, .string (tx ([])), v5, J (x8 : Int), v5, u0 0, u0 1, u0 2, u0 3, u0 4, u0 5, u0 6, u0 7, u0 8, u0 9, undef, undef], []⟩ ∧ Mm none (fun _ => True) w w' [.row v5 l9.length (l9.flatMap eB) 5 1]) ⟨(((List.replicate 256 (0 : UInt8)).length - 0) + 1), 0, (List.replicate 256 (0 : UInt8)), (fun qq => List.getD [undef, undef, undef, undef, undef, undef, undef, undef, undef, undef] qq undef), rfl, Nat.lt_succ_self _, rfl, List.length_replicate, rfl, hm4⟩ ?_
  rintro n10 _ w16 ⟨_, x8, l9, u0, rfl, hl20, hi12, hls, rfl, hm17⟩ R18 hR18
  obtain ⟨k11, rfl⟩ : ∃ k, n10 = k + 1 := ⟨n10 - 1, by omega⟩
  refine wk (fun K21 hK21 => (wk (fun K22 hK22 => (wq ?_))))
  refine lm 6 (J (x8 : Int)) ?_
  refine lm 7 (v5) ?_
  refine lw 8 (J (l9.length : Int)) (s_len (Rs.row (hm17.row 0 rfl)) rfl Tryd.underlying43 rfl) ?_
  simp only [nz]
  refine lw 9 (.bool (decide (x8 < l9.length))) (r_lss x8 l9.length rfl rfl rfl) ?_
  simp only [nz]
  refine wn (tj (hK22 _ _ ?_))
  refine cond_d (x8 < l9.length) rfl (fun hc23 => ?_) (fun hc23 => ?_)
  rotate_left
  ·refine wp_exit (then_x (then_x (blk_x ?_)))
   refine tj ?_
   exact ⟨x8, l9, (fun qq => List.getD [J (x8 : Int), v5, J (l9.length : Int), .bool (decide (x8 < l9.length)), u0 4, u0 5, u0 6, u0 7, u0 8, u0 9] qq undef), (hi12.trans (show sector_m_b0 c (sector_m_l0 c k11) x8 l9 = .inl (x8, l9) from by unfold sector_m_b0; rw [if_neg hc23] <;> rfl)), hls, rfl, hm17⟩
  refine wp_skip (tj (hK21 _ _ (wk (fun K24 hK24 => ?_))))
  refine wp_block ?_
  refine wq ?_
  refine lm 12 (v5) ?_
  refine lm 13 (J (x8 : Int)) ?_
  refine lm 14 (.int .u8 (c.toNat : Int)) ?_
  simp only [nz]
  refine lw 15 (.pointer (some ⟨(bk v5), (po v5 + x8 * 1), none⟩)) (r_ixv (Rs.row (hm17.row 0 rfl)) x8 (by omega) Tryd.underlying43 sz_5 rfl rfl rfl) ?_
  simp only [nz]
  refine lst rfl (m_setR 0 (l := l9) x8 c (.int .u8 (c.toNat : Int)) hm17 rfl rfl rfl (by omega) rfl rfl sz_5 eB_len rfl rfl (fun w25 hm26 => ?_))
  refine wn (blk_n (tj (hK24 _ _ (wq ?_))))
  refine lm 10 (J (x8 : Int)) ?_
  refine lw 11 (J (((x8 + 1) : Nat) : Int)) (r_add x8 1 (show (x8 + 1) < 9223372036854775808 from by omega) rfl rfl rfl) ?_
  refine la 4 (J (((x8 + 1) : Nat) : Int)) ?_
  simp only [nz]
  refine wn ?_
  refine tj (hR18 _ _ _ ⟨k11, (x8 + 1), (l9.set x8 c), (fun qq => List.getD [J (x8 : Int), v5, J (l9.length : Int), .bool (decide (x8 < l9.length)), J (x8 : Int), J (((x8 + 1) : Nat) : Int), v5, J (x8 : Int), .int .u8 (c.toNat : Int), .pointer (some ⟨(bk v5), (po v5 + x8 * 1), none⟩)] qq undef), rfl, (by simp; omega), (hi12.trans (show sector_m_b0 c (sector_m_l0 c k11) x8 l9 = sector_m_l0 c k11 ((x8 + 1), (l9.set x8 c)) from by unfold sector_m_b0; rw [if_pos hc23] <;> rfl)), (by rw [List.length_set]; exact hls), rfl, hm26⟩ ?_)
  omega
 rintro _ w27 ⟨y13, y14, yu0, hx15, hls, rfl, hm28⟩
 have hq29 : sector_m c = sector_m_k0 c y13 y14 := (show sector_m c = sector_m_k0 c y13 y14 from by unfold sector_m; rw [hx15] <;> rfl)
 refine tj (hK6 _ _ (wk (fun K30 hK30 => (wq ?_))))
 refine lm 16 (v5) ?_
 refine lw 17 (.string (tx y14)) (r_stringR y14 (by have h := (Rs.row (hm28.row 0 rfl)); unfold Rs at h; rw [eB_map] at h; exact h) Tryd.underlying43 Tryd.underlying5 Tryd.underlying9 rfl rfl) ?_
 refine la 2 (.string (tx y14)) ?_
 simp only [nz]
 refine wn (tj (hK30 _ _ (wp_ret ?_)))
 have he31 : sector_m c = y14 := (hq29.trans (show sector_m_k0 c y13 y14 = y14 from by unfold sector_m_k0; rfl))
 exact ⟨rfl, .string (tx y14), res_t rfl rfl, ⟨by (rw [he31]; try rfl), hm28.below⟩⟩
theorem run_sector {o : Oper} {a : Act} {w : World} {x0 : Operand} {v0 : Value} (ho : o.op = .call { callee := .value (.func 28), args := #[x0], argTypes := #[5] }) (h0 : a.eval x0 = v0) :
  (execOp a.eval o).run Tryd.prog w = .ok (.enter 28 #[v0]) w := by
 unfold execOp
 simp only [ho]
 have hf : a.eval (.func 28) = .func (.func 28) #[] #[] := rfl
 generalize a.eval = f at *
 go_simp
def rnew_m_b0 (n : Int) (rec : Nat × (List (List UInt8)) × (List Wr) × Int × Bool → Sum (Nat × (List (List UInt8)) × (List Wr) × Int × Bool) (Dk × Int)) (x33 : Nat) (l34 : List (List UInt8)) (l36 : List Wr) (x40 : Int) (x41 : Bool) : Sum (Nat × (List (List UInt8)) × (List Wr) × Int × Bool) (Dk × Int) :=
 if ((x33 : Nat) : Int) < n then
  rec ((x33 + 1), (l34 ++ [blank_m]), l36, x40, x41)
 else
  .inl (x33, l34, l36, x40, x41)
def rnew_m_l0 (n : Int) : Nat → Nat × (List (List UInt8)) × (List Wr) × Int × Bool → Sum (Nat × (List (List UInt8)) × (List Wr) × Int × Bool) (Dk × Int)
 | 0, zz => .inl zz
 | nq + 1, zz => rnew_m_b0 n (rnew_m_l0 n nq) zz.1 zz.2.1 zz.2.2.1 zz.2.2.2.1 zz.2.2.2.2
def rnew_m_k0 (n : Int) (y48 : Nat) (y49 : List (List UInt8)) (y51 : List Wr) (y54 : Int) (y55 : Bool) : Dk × Int :=
 ((Dk.mk y49 y51 y54 y55), 0)
def rnew_m (n : Int) : Dk × Int :=
 if n < 32 then
  ((Dk.mk ([] : List (List UInt8)) ([] : List Wr) 0 false), 1)
 else
  if 2048 < n then
   ((Dk.mk ([] : List (List UInt8)) ([] : List Wr) 0 false), 1)
  else
   fin (rnew_m_l0 n ((n - ((0 : Nat) : Int)).toNat + 1) (0, ([] : List (List UInt8)), ([] : List Wr), -1, false)) (fun r => r) (fun zz => rnew_m_k0 n zz.1 zz.2.1 zz.2.2.1 zz.2.2.2.1 zz.2.2.2.2)
theorem rnew_any (n : Int) (S : Nat → Prop) (w : World)   : Calls Tryd.prog 37 #[J (n)] w (fun e w' => (∃ v, e = .returned v ∧ ∃ (o0 : Value) (o1 : Value), v = .tuple #[.agg #[o0, o1, J (((rnew_m n).1).fuse), .bool (((rnew_m n).1).down)], J ((rnew_m n).2)] ∧ Gives w w' S (DkR ((rnew_m n).1) o0 o1)) ∧ Below w.heap.size w w') := by
 go_enter Tryd.func37, Tryd.ntmps37
 have hm00 := Mm.nil none S w
 have hm0 := hm00
 refine wk (fun K1 hK1 => (wq ?_))
 refine lst rfl (m_alloc (c := #[.slice none 0 0, .slice none 0 0, J 0, .bool false]) (T := 25) hm0 2 rfl (by unfold execOp; go_simp; try rfl) (fun g4 w2 hm3 => ?_))
 simp only [nz]
 refine la 3 (J 0) ?_
 simp only [nz]
 refine wn (tj (hK1 _ _ (wk (fun K5 hK5 => (wk (fun K6 hK6 => (wq ?_)))))))
 refine lm 6 (J (n)) ?_
 simp only [nz]
 refine lvb 7 (n < 32) rfl rfl (z_lss n 32 rfl rfl rfl) (fun hs7 => ?_) (fun hs7 => ?_)
 ·simp only [nz]
  refine lm 8 (.bool true) ?_
  simp only [nz]
  refine lst_skip 9 rfl rfl ?_
  simp only [nz]
  refine lst_skip 10 rfl rfl ?_
  simp only [nz]
  refine lw 11 (.bool true) (run_pick rfl rfl rfl) ?_
  simp only [nz]
  refine wn (tj (hK6 _ _ ?_))
  refine cond_t rfl ?_
  refine wk (fun K8 hK8 => (wq ?_))
  refine lw 12 (.agg #[.slice none 0 0, .slice none 0 0, J 0, .bool false]) (by unfold execOp; go_simp; try (first | rfl | (repeat' (first | rfl | apply And.intro)))) ?_
  simp only [nz]
  have ho11 := (show (Value.slice none 0 0).oneCell' = true from rfl)
  have ho12 := (show (Value.slice none 0 0).oneCell' = true from rfl)
  refine lst rfl (m_store 0 25 _ _ 0 (.agg #[.slice none 0 0, .slice none 0 0, J 0, .bool false]) (old := #[.slice none 0 0, .slice none 0 0, J 0, .bool false]) (new := #[.slice none 0 0, .slice none 0 0, J 0, .bool false]) hm3 rfl rfl rfl rfl rfl (by exact sz_25) (show 0 + 4 ≤ 4 from by decide) a4 rfl (fun w9 hm10 => ?_))
  refine la 3 (J 1) ?_
  simp only [nz]
  refine wn (tj (hK8 _ _ (wp_ret (then_r ?_))))
  have he13 : rnew_m n = ((Dk.mk ([] : List (List UInt8)) ([] : List Wr) 0 false), 1) := by unfold rnew_m; rw [if_pos hs7] <;> rfl
  exact ⟨rfl, .tuple #[.agg #[.slice none 0 0, .slice none 0 0, J 0, .bool false], J 1], Mem.res_ct rfl rfl (hm10.at 0 rfl) Tryd.underlying25 rfl (by exact sz_25) rfl, ⟨⟨_, rfl, (.slice none 0 0), (.slice none 0 0), (by rw [he13]), by rw [he13]; exact hm10.give ((From.pure (fun W => Rs.nil eS 1 W)).and (From.pure (fun W => Rs.nil eWr 2 W)))⟩, hm10.below⟩⟩
 simp only [nz]
 refine lm 8 (.bool false) ?_
 refine lm 9 (J (n)) ?_
 refine lw 10 (.bool (decide (2048 < n))) (z_gtr n 2048 rfl rfl rfl) ?_
 simp only [nz]
 refine lw 11 (.bool (decide (2048 < n))) (run_pickf rfl rfl rfl) ?_
 simp only [nz]
 refine wn (tj (hK6 _ _ ?_))
 refine cond_d (2048 < n) rfl (fun hc14 => ?_) (fun hc14 => ?_)
 ·refine wk (fun K15 hK15 => (wq ?_))
  refine lw 12 (.agg #[.slice none 0 0, .slice none 0 0, J 0, .bool false]) (by unfold execOp; go_simp; try (first | rfl | (repeat' (first | rfl | apply And.intro)))) ?_
  simp only [nz]
  have ho18 := (show (Value.slice none 0 0).oneCell' = true from rfl)
  have ho19 := (show (Value.slice none 0 0).oneCell' = true from rfl)
  refine lst rfl (m_store 0 25 _ _ 0 (.agg #[.slice none 0 0, .slice none 0 0, J 0, .bool false]) (old := #[.slice none 0 0, .slice none 0 0, J 0, .bool false]) (new := #[.slice none 0 0, .slice none 0 0, J 0, .bool false]) hm3 rfl rfl rfl rfl rfl (by exact sz_25) (show 0 + 4 ≤ 4 from by decide) a4 rfl (fun w16 hm17 => ?_))
  refine la 3 (J 1) ?_
  simp only [nz]
  refine wn (tj (hK15 _ _ (wp_ret (then_r ?_))))
  have he20 : rnew_m n = ((Dk.mk ([] : List (List UInt8)) ([] : List Wr) 0 false), 1) := by unfold rnew_m; rw [if_neg hs7, if_pos hc14] <;> rfl
  exact ⟨rfl, .tuple #[.agg #[.slice none 0 0, .slice none 0 0, J 0, .bool false], J 1], Mem.res_ct rfl rfl (hm17.at 0 rfl) Tryd.underlying25 rfl (by exact sz_25) rfl, ⟨⟨_, rfl, (.slice none 0 0), (.slice none 0 0), (by rw [he20]), by rw [he20]; exact hm17.give ((From.pure (fun W => Rs.nil eS 1 W)).and (From.pure (fun W => Rs.nil eWr 2 W)))⟩, hm17.below⟩⟩
 refine wp_skip (tj (hK5 _ _ (wk (fun K21 hK21 => (wq ?_)))))
 refine lw 13 (.agg #[.slice none 0 0, .slice none 0 0, J (-1), .bool false]) (by unfold execOp; go_simp; try (first | rfl | (repeat' (first | rfl | apply And.intro)))) ?_
 simp only [nz]
 refine lst rfl (m_alloc (c := #[.slice none 0 0, .slice none 0 0, J 0, .bool false]) (T := 25) hm3 4 rfl (by unfold execOp; go_simp; try rfl) (fun g24 w22 hm23 => ?_))
 simp only [nz]
 have ho27 := (show (Value.slice none 0 0).oneCell' = true from rfl)
 have ho28 := (show (Value.slice none 0 0).oneCell' = true from rfl)
 refine lst rfl (m_store 1 25 _ _ 0 (.agg #[.slice none 0 0, .slice none 0 0, J (-1), .bool false]) (old := #[.slice none 0 0, .slice none 0 0, J 0, .bool false]) (new := #[.slice none 0 0, .slice none 0 0, J (-1), .bool false]) hm23 rfl rfl rfl rfl rfl (by exact sz_25) (show 0 + 4 ≤ 4 from by decide) a4 rfl (fun w25 hm26 => ?_))
 refine wn (tj (hK21 _ _ (wk (fun K29 hK29 => (wk (fun K30 hK30 => (wq ?_)))))))
 refine la 5 (J 0) ?_
 simp only [nz]
 refine wn (tj (hK30 _ _ ?_))
 have hm32 : Mm none S w w25 [.blk g4 #[.slice none 0 0, .slice none 0 0, J 0, .bool false] 25, .blk g24 #[.slice none 0 0, .slice none 0 0, J (-1), .bool false] 25, .row (.slice none 0 0) ([] : List (List UInt8)).length (([] : List (List UInt8)).flatMap eS) 9 1] := hm26.nilrow 9 1
 obtain ⟨F42, hm43⟩ : ∃ F42, Mm none S w w25 [.blk g4 #[.slice none 0 0, .slice none 0 0, J 0, .bool false] 25, .blk g24 #[.slice none 0 0, .slice none 0 0, J (-1), .bool false] 25, .row (.slice none 0 0) ([] : List (List UInt8)).length (([] : List (List UInt8)).flatMap eS) 9 1, .see (Rs eWr 2 ([] : List Wr) (.slice none 0 0)) F42] := hm32.derive (From.pure (fun W => Rs.nil eWr 2 W))
 refine wp_cutK (fun a' w' => ∃ (y48 : Nat) (y49 : List (List UInt8)) (y51 : List Wr) (y54 : Int) (y55 : Bool) (v50 : Value) (v52 : Value) (F53 : Nat → Prop) (yu0 : Nat → Value), rnew_m_l0 n ((n - ((0 : Nat) : Int)).toNat + 1) (0, ([] : List (List UInt8)), ([] : List Wr), -1, false) = .inl (y48, y49, y51, y54, y55) ∧ (y49.length ≤ y48) ∧ a' = ⟨#[J (n), undef, Pp g4 0, J 0, Pp g24 0, J (y48 : Int), J (n), .bool false, .bool false, J (n), .bool (decide (2048 < n)), .bool (decide (2048 < n)), undef, .agg #[.slice none 0 0, .slice none 0 0, J (-1), .bool false], yu0 0, yu0 1, yu0 2, yu0 3, yu0 4, yu0 5, yu0 6, yu0 7, yu0 8, yu0 9, yu0 10, undef], []⟩ ∧ Mm none S w w' [.blk g4 #[.slice none 0 0, .slice none 0 0, J 0, .bool false] 25, .blk g24 #[v50, v52, J (y54), .bool (y55)] 25, .row v50 y49.length (y49.flatMap eS) 9 1, .see (Rs eWr 2 y51 v52) F53]) ?_ ?_
 ·refine wp_block ?_
  refine wp_loop_n (fun n' a' w' => ∃ (n45 : Nat) (x33 : Nat) (l34 : List (List UInt8)) (l36 : List Wr) (x40 : Int) (x41 : Bool) (v35 : Value) (v37 : Value) (F38 : Nat → Prop) (u0 : Nat → Value), n' = n45 ∧ (n - (x33 : Int)).toNat < n45 ∧ rnew_m_l0 n ((n - ((0 : Nat) : Int)).toNat + 1) (0, ([] : List (List UInt8)), ([] : List Wr), -1, false) = rnew_m_l0 n n45 (x33, l34, l36, x40, x41) ∧ (l34.length ≤ x33) ∧ a' = ⟨#[J (n), undef, Pp g4 0, J 0, Pp g24 0, J (x33 : Int), J (n), .bool false, .bool false, J (n), .bool (decide (2048 < n)), .bool (decide (2048 < n)), undef, .agg #[.slice none 0 0, .slice none 0 0, J (-1), .bool false], u0 0, u0 1, u0 2, u0 3, u0 4, u0 5, u0 6, u0 7, u0 8, u0 9, u0 10, undef], []⟩ ∧ Mm none S w w' [.blk g4 #[.slice none 0 0, .slice none 0 0, J 0, .bool false] 25, .blk g24 #[v35, v37, J (x40), .bool (x41)] 25, .row v35 l34.length (l34.flatMap eS) 9 1, .see (Rs eWr 2 l36 v37) F38]) ⟨((n - ((0 : Nat) : Int)).toNat + 1), 0, ([] : List (List UInt8)), ([] : List Wr), -1, false, .slice none 0 0, .slice none 0 0, F42, (fun qq => List.getD [undef, undef, undef, undef, undef, undef, undef, undef, undef, undef, undef] qq undef), rfl, Nat.lt_succ_self _, rfl, (Nat.le_refl _), rfl, hm43⟩ ?_
  rintro n45 _ w57 ⟨_, x33, l34, l36, x40, x41, v35, v37, F38, u0, rfl, hl61, hi47, hln, rfl, hm58⟩ R59 hR59
  obtain ⟨k46, rfl⟩ : ∃ k, n45 = k + 1 := ⟨n45 - 1, by omega⟩
  refine wk (fun K62 hK62 => (wk (fun K63 hK63 => (wq ?_))))
  refine lm 14 (J (x33 : Int)) ?_
  refine lm 15 (J (n)) ?_
  refine lw 16 (.bool (decide ((x33 : Int) < n))) (z_lss (x33 : Int) n rfl rfl rfl) ?_
  simp only [nz]
  refine wn (tj (hK63 _ _ ?_))
  refine cond_d ((x33 : Int) < n) rfl (fun hc64 => ?_) (fun hc64 => ?_)
  rotate_left
  ·refine wp_exit (then_x (then_x (blk_x ?_)))
   refine tj ?_
   obtain ⟨F104, hm105⟩ := hm58.derive (hm58.from 3 rfl)
   exact ⟨x33, l34, l36, x40, x41, v35, v37, F104, (fun qq => List.getD [J (x33 : Int), J (n), .bool (decide ((x33 : Int) < n)), u0 3, u0 4, u0 5, u0 6, u0 7, u0 8, u0 9, u0 10] qq undef), (hi47.trans (show rnew_m_b0 n (rnew_m_l0 n k46) x33 l34 l36 x40 x41 = .inl (x33, l34, l36, x40, x41) from by unfold rnew_m_b0; rw [if_neg hc64] <;> rfl)), hln, rfl, (Mm.reorder hm105 [0, 1, 2, 4] (by decide) rfl)⟩
  refine wp_skip (tj (hK62 _ _ (wk (fun K65 hK65 => ?_))))
  refine wp_block ?_
  refine wp_mono (Q := fun e a' w' => e = Exit.normal ∧ ∃ (g72 : Nat) (v75 : Value) (v35 : Value), a' = ⟨#[J (n), undef, Pp g4 0, J 0, Pp g24 0, J (x33 : Int), J (n), .bool false, .bool false, J (n), .bool (decide (2048 < n)), .bool (decide (2048 < n)), undef, .agg #[.slice none 0 0, .slice none 0 0, J (-1), .bool false], J (x33 : Int), J (n), .bool (decide ((x33 : Int) < n)), u0 3, u0 4, Pp g24 0, v35, .string (tx blank_m), Sl g72 0 1 1, v75, Pp g24 0, undef], []⟩ ∧ Mm none S w w' [.blk g4 #[.slice none 0 0, .slice none 0 0, J 0, .bool false] 25, .blk g24 #[v75, v37, J (x40), .bool (x41)] 25, .row v75 (l34 ++ [blank_m]).length ((l34 ++ [blank_m]).flatMap eS) 9 1, .see (Rs eWr 2 l36 v37) F38, .blk g72 #[.string (tx blank_m)] 9]) ?_ ?_
  ·have hm66 := hm58.drew
   refine wp_region_held_drew (S := fun w' => True) (by kernel_rfl) (trivial) (fun _ => ?_)
   generalize w57.drew = w67 at *
   refine tn 0 19 (Pp g24 0) rfl rfl (fun _ hw => r_fa25_0 g24 0 rfl rfl) (trivial) ?_
   simp only [nz]
   refine two_ready 1 2 (by kernel_rfl) ?_ ?_
   ·refine opd rfl rfl (w_value 20 (v35) rfl (r_load (hm66.at 1 rfl) rfl Tryd.underlying22 rfl rfl rfl) ⟨trivial, ?_⟩)
    simp only [nz]
    refine one_ready 2 (by kernel_rfl) ?_
    refine opd rfl rfl (m_call hm66 21 (.string (tx blank_m)) rfl (run_blank rfl) (blank_any   _  ) (fun w68 hm69 => ?_))
    refine ⟨trivial, ?_⟩
    simp only [nz]
    refine one_ready 3 (by kernel_rfl) ?_
    refine opd rfl rfl (m_make (c := #[.string (tx blank_m)]) (T := 9) (fun g => Sl g 0 1 1) hm69 22 rfl (by unfold execOp; go_simp; try rfl) (fun g72 w70 hm71 => ?_))
    refine ⟨trivial, ?_⟩
    simp only [nz]
    refine one_ready 4 (by kernel_rfl) ?_
    obtain ⟨iq, hiq, hz1, hz2, hz3⟩ := inf_9
    refine opd rfl rfl (m_appendR 2 (l := l34) (l2 := [blank_m]) iq _ _ _ (Sl g72 0 1 1) hm71 rfl 23 rfl rfl Tryd.underlying22 hiq hz1 hz2 hz3 eS_len eS_one rfl (by decide) rfl rfl (Rs.blk (l := [blank_m]) (hm71.at 4 rfl) rfl rfl eS_len (Nat.le_refl _)) (by simp; omega) (by simp; omega) (fun v75 w73 hm74 => ?_))
    refine ⟨trivial, ?_⟩
    simp only [nz]
    refine tn 5 24 (Pp g24 0) rfl rfl (fun _ hw => r_fa25_0 g24 0 rfl rfl) (trivial) ?_
    simp only [nz]
    refine one_ready 6 (by kernel_rfl) ?_
    have ho78 := (rd_one (Rs.row (hm74.row 2 rfl)))
    refine opd rfl rfl (m_store 1 22 _ _ 0 (v75) (old := #[v35, v37, J (x40), .bool (x41)]) (new := #[v75, v37, J (x40), .bool (x41)]) hm74 rfl rfl rfl rfl rfl (by rw [cells_one ho78]; exact sz_22) (by rw [cells_one ho78]; exact (show 0 + 1 ≤ 4 from by decide)) (one_all ho78) (by rw [cells_one ho78]; rfl) (fun w76 hm77 => ?_))
    refine ⟨trivial, ?_⟩
    refine wpAnyH_done (by kernel_rfl) ?_ _
    exact ⟨rfl, g72, v75, v35, rfl, hm77⟩
   refine opd rfl rfl (m_call hm66 21 (.string (tx blank_m)) rfl (run_blank rfl) (blank_any   _  ) (fun w79 hm80 => ?_))
   refine ⟨trivial, ?_⟩
   simp only [nz]
   refine two_ready 1 3 (by kernel_rfl) ?_ ?_
   ·refine opd rfl rfl (w_value 20 (v35) rfl (r_load (hm80.at 1 rfl) rfl Tryd.underlying22 rfl rfl rfl) ⟨trivial, ?_⟩)
    simp only [nz]
    refine one_ready 3 (by kernel_rfl) ?_
    refine opd rfl rfl (m_make (c := #[.string (tx blank_m)]) (T := 9) (fun g => Sl g 0 1 1) hm80 22 rfl (by unfold execOp; go_simp; try rfl) (fun g83 w81 hm82 => ?_))
    refine ⟨trivial, ?_⟩
    simp only [nz]
    refine one_ready 4 (by kernel_rfl) ?_
    obtain ⟨iq, hiq, hz1, hz2, hz3⟩ := inf_9
    refine opd rfl rfl (m_appendR 2 (l := l34) (l2 := [blank_m]) iq _ _ _ (Sl g83 0 1 1) hm82 rfl 23 rfl rfl Tryd.underlying22 hiq hz1 hz2 hz3 eS_len eS_one rfl (by decide) rfl rfl (Rs.blk (l := [blank_m]) (hm82.at 4 rfl) rfl rfl eS_len (Nat.le_refl _)) (by simp; omega) (by simp; omega) (fun v86 w84 hm85 => ?_))
    refine ⟨trivial, ?_⟩
    simp only [nz]
    refine tn 5 24 (Pp g24 0) rfl rfl (fun _ hw => r_fa25_0 g24 0 rfl rfl) (trivial) ?_
    simp only [nz]
    refine one_ready 6 (by kernel_rfl) ?_
    have ho89 := (rd_one (Rs.row (hm85.row 2 rfl)))
    refine opd rfl rfl (m_store 1 22 _ _ 0 (v86) (old := #[v35, v37, J (x40), .bool (x41)]) (new := #[v86, v37, J (x40), .bool (x41)]) hm85 rfl rfl rfl rfl rfl (by rw [cells_one ho89]; exact sz_22) (by rw [cells_one ho89]; exact (show 0 + 1 ≤ 4 from by decide)) (one_all ho89) (by rw [cells_one ho89]; rfl) (fun w87 hm88 => ?_))
    refine ⟨trivial, ?_⟩
    refine wpAnyH_done (by kernel_rfl) ?_ _
    exact ⟨rfl, g83, v86, v35, rfl, hm88⟩
   refine opd rfl rfl (m_make (c := #[.string (tx blank_m)]) (T := 9) (fun g => Sl g 0 1 1) hm80 22 rfl (by unfold execOp; go_simp; try rfl) (fun g92 w90 hm91 => ?_))
   refine ⟨trivial, ?_⟩
   simp only [nz]
   refine one_ready 1 (by kernel_rfl) ?_
   refine opd rfl rfl (w_value 20 (v35) rfl (r_load (hm91.at 1 rfl) rfl Tryd.underlying22 rfl rfl rfl) ⟨trivial, ?_⟩)
   simp only [nz]
   refine one_ready 4 (by kernel_rfl) ?_
   obtain ⟨iq, hiq, hz1, hz2, hz3⟩ := inf_9
   refine opd rfl rfl (m_appendR 2 (l := l34) (l2 := [blank_m]) iq _ _ _ (Sl g92 0 1 1) hm91 rfl 23 rfl rfl Tryd.underlying22 hiq hz1 hz2 hz3 eS_len eS_one rfl (by decide) rfl rfl (Rs.blk (l := [blank_m]) (hm91.at 4 rfl) rfl rfl eS_len (Nat.le_refl _)) (by simp; omega) (by simp; omega) (fun v95 w93 hm94 => ?_))
   refine ⟨trivial, ?_⟩
   simp only [nz]
   refine tn 5 24 (Pp g24 0) rfl rfl (fun _ hw => r_fa25_0 g24 0 rfl rfl) (trivial) ?_
   simp only [nz]
   refine one_ready 6 (by kernel_rfl) ?_
   have ho98 := (rd_one (Rs.row (hm94.row 2 rfl)))
   refine opd rfl rfl (m_store 1 22 _ _ 0 (v95) (old := #[v35, v37, J (x40), .bool (x41)]) (new := #[v95, v37, J (x40), .bool (x41)]) hm94 rfl rfl rfl rfl rfl (by rw [cells_one ho98]; exact sz_22) (by rw [cells_one ho98]; exact (show 0 + 1 ≤ 4 from by decide)) (one_all ho98) (by rw [cells_one ho98]; rfl) (fun w96 hm97 => ?_))
   refine ⟨trivial, ?_⟩
   refine wpAnyH_done (by kernel_rfl) ?_ _
   exact ⟨rfl, g92, v95, v35, rfl, hm97⟩
  clear hm58
  rintro _ _ w99 ⟨rfl, g72, v75, v35, rfl, hm100⟩
  refine blk_n (tj (hK65 _ _ (wq ?_)))
  refine lm 17 (J (x33 : Int)) ?_
  refine lw 18 (J (((x33 + 1) : Nat) : Int)) (r_add x33 1 (show (x33 + 1) < 9223372036854775808 from by omega) rfl rfl rfl) ?_
  refine la 5 (J (((x33 + 1) : Nat) : Int)) ?_
  simp only [nz]
  refine wn ?_
  obtain ⟨F101, hm102⟩ := hm100.derive (hm100.from 3 rfl)
  refine tj (hR59 _ _ _ ⟨k46, (x33 + 1), (l34 ++ [blank_m]), l36, x40, x41, v75, v37, F101, (fun qq => List.getD [J (x33 : Int), J (n), .bool (decide ((x33 : Int) < n)), J (x33 : Int), J (((x33 + 1) : Nat) : Int), Pp g24 0, v35, .string (tx blank_m), Sl g72 0 1 1, v75, Pp g24 0] qq undef), rfl, (by omega), (hi47.trans (show rnew_m_b0 n (rnew_m_l0 n k46) x33 l34 l36 x40 x41 = rnew_m_l0 n k46 ((x33 + 1), (l34 ++ [blank_m]), l36, x40, x41) from by unfold rnew_m_b0; rw [if_pos hc64] <;> rfl)), (by rw [List.length_append, List.length_singleton]; omega), rfl, (Mm.reorder hm102 [0, 1, 2, 5] (by decide) rfl)⟩ ?_)
  omega
 rintro _ w107 ⟨y48, y49, y51, y54, y55, v50, v52, F53, yu0, hx56, hln, rfl, hm108⟩
 have hq109 : rnew_m n = rnew_m_k0 n y48 y49 y51 y54 y55 := (show rnew_m n = rnew_m_k0 n y48 y49 y51 y54 y55 from by unfold rnew_m; rw [if_neg hs7, if_neg hc14, hx56] <;> rfl)
 refine tj (hK29 _ _ (wk (fun K110 hK110 => (wq ?_))))
 refine lw 25 (.agg #[v50, v52, J (y54), .bool (y55)]) (r_whole (hm108.at 1 rfl) Tryd.underlying25 rfl (by exact sz_25) rfl rfl) ?_
 simp only [nz]
 have ho113 := (rd_one (Rs.row (hm108.row 2 rfl)))
 have ho114 := (rd_one ((hm108.see 3 rfl)))
 refine lst rfl (m_store 0 25 _ _ 0 (.agg #[v50, v52, J (y54), .bool (y55)]) (old := #[.slice none 0 0, .slice none 0 0, J 0, .bool false]) (new := #[v50, v52, J (y54), .bool (y55)]) hm108 rfl rfl rfl rfl rfl (by exact sz_25) (show 0 + 4 ≤ 4 from by decide) a4 rfl (fun w111 hm112 => ?_))
 refine la 3 (J 0) ?_
 simp only [nz]
 refine wn (tj (hK110 _ _ (wp_ret ?_)))
 have hm115 : Mm none S w w111 [.blk g4 #[v50, v52, J (y54), .bool (y55)] 25, .blk g24 #[v50, v52, J (y54), .bool (y55)] 25, .see (Rs eS 1 y49 v50) (fp v50 (y49.flatMap eS)), .see (Rs eWr 2 y51 v52) F53] := hm112.freeze 2 rfl
 have he116 : rnew_m n = ((Dk.mk y49 y51 y54 y55), 0) := (hq109.trans (show rnew_m_k0 n y48 y49 y51 y54 y55 = ((Dk.mk y49 y51 y54 y55), 0) from by unfold rnew_m_k0; rfl))
 exact ⟨rfl, .tuple #[.agg #[v50, v52, J (y54), .bool (y55)], J 0], Mem.res_ct rfl rfl (hm115.at 0 rfl) Tryd.underlying25 rfl (by exact sz_25) rfl, ⟨⟨_, rfl, v50, v52, (by rw [he116]), by rw [he116]; exact hm115.give ((hm115.from 2 rfl).and (hm115.from 3 rfl))⟩, hm115.below⟩⟩
theorem run_rnew {o : Oper} {a : Act} {w : World} {x0 : Operand} {v0 : Value} (ho : o.op = .call { callee := .value (.func 37), args := #[x0], argTypes := #[3] }) (h0 : a.eval x0 = v0) :
  (execOp a.eval o).run Tryd.prog w = .ok (.enter 37 #[v0]) w := by
 unfold execOp
 simp only [ho]
 have hf : a.eval (.func 37) = .func (.func 37) #[] #[] := rfl
 generalize a.eval = f at *
 go_simp
def same_m_b0 (a : Dk) (b : Dk) (rec : Nat → Sum (Nat) (Bool)) (x24 : Nat) : Sum (Nat) (Bool) :=
 if x24 < a.safe.length then
  if ¬ (a.safe.getD x24 []) = (b.safe.getD x24 []) then
   .inr false
  else
   rec (x24 + 1)
 else
  .inl x24
def same_m_l0 (a : Dk) (b : Dk) : Nat → Nat → Sum (Nat) (Bool)
 | 0, zz => .inl zz
 | nq + 1, zz => same_m_b0 a b (same_m_l0 a b nq) zz
def same_m_b1 (a : Dk) (b : Dk) (y28 : Nat) (rec : Nat → Sum (Nat) (Bool)) (x51 : Nat) : Sum (Nat) (Bool) :=
 if x51 < a.loose.length then
  if ¬ (a.loose.getD x51 dWr) = (b.loose.getD x51 dWr) then
   .inr false
  else
   rec (x51 + 1)
 else
  .inl x51
def same_m_l1 (a : Dk) (b : Dk) (y28 : Nat) : Nat → Nat → Sum (Nat) (Bool)
 | 0, zz => .inl zz
 | nq + 1, zz => same_m_b1 a b y28 (same_m_l1 a b y28 nq) zz
def same_m_k1 (a : Dk) (b : Dk) (y28 : Nat) (y55 : Nat) : Bool :=
 true
def same_m_k0 (a : Dk) (b : Dk) (y28 : Nat) : Bool :=
 fin (same_m_l1 a b y28 ((a.loose.length - 0) + 1) 0) (fun r => r) (fun zz => same_m_k1 a b y28 zz)
def same_m (a : Dk) (b : Dk) : Bool :=
 if ¬ a.safe.length = b.safe.length then
  false
 else
  if ¬ a.loose.length = b.loose.length then
   false
  else
   if ¬ a.fuse = b.fuse then
    false
   else
    if (a.down != b.down) = true then
     false
    else
     fin (same_m_l0 a b ((a.safe.length - 0) + 1) 0) (fun r => r) (fun zz => same_m_k0 a b zz)
theorem same_any (a : Dk) (b : Dk) (av0 : Value) (av1 : Value) (bv0 : Value) (bv1 : Value) (w : World) (ha : DkR a av0 av1 w) (hb : DkR b bv0 bv1 w) (hp0 : a.safe.length ≤ 8796093022208) (hp1 : a.loose.length ≤ 5864070000000) : Calls Tryd.prog 24 #[.agg #[av0, av1, J (a.fuse), .bool (a.down)], .agg #[bv0, bv1, J (b.fuse), .bool (b.down)]] w (fun e w' => e = .returned (.bool ((same_m a b))) ∧ Below w.heap.size w w') := by
 go_enter Tryd.func24, Tryd.ntmps24
 have hm00 := Mm.nil none (fun _ => True) w
 obtain ⟨Fa, hm01⟩ : ∃ Fa, Mm none (fun _ => True) w w [.see (DkR a av0 av1) Fa] := hm00.come (DkR_all ha)
 obtain ⟨Fb, hm02⟩ : ∃ Fb, Mm none (fun _ => True) w w [.see (DkR a av0 av1) Fa, .see (DkR b bv0 bv1) Fb] := hm01.come (DkR_all hb)
 have hm0 := hm02
 refine wk (fun K1 hK1 => (wq ?_))
 refine lst rfl (m_alloc (c := #[av0, av1, J (a.fuse), .bool (a.down)]) (T := 25) hm0 2 rfl (run_box rfl rfl) (fun g4 w2 hm3 => ?_))
 simp only [nz]
 refine lst rfl (m_alloc (c := #[bv0, bv1, J (b.fuse), .bool (b.down)]) (T := 25) hm3 3 rfl (run_box rfl rfl) (fun g7 w5 hm6 => ?_))
 simp only [nz]
 refine la 4 (.bool false) ?_
 simp only [nz]
 refine wn (tj (hK1 _ _ (wk (fun K8 hK8 => (wk (fun K9 hK9 => (wq ?_)))))))
 refine lw 7 (Pp g4 0) (r_fa25_0 g4 0 rfl rfl) ?_
 refine lw 8 (av0) (r_load (hm6.at 2 rfl) rfl Tryd.underlying22 rfl rfl rfl) ?_
 refine lw 9 (J (a.safe.length : Int)) (s_len ((hm6.see 0 rfl).1) rfl Tryd.underlying22 rfl) ?_
 simp only [nz]
 refine lw 10 (Pp g7 0) (r_fa25_0 g7 0 rfl rfl) ?_
 refine lw 11 (bv0) (r_load (hm6.at 3 rfl) rfl Tryd.underlying22 rfl rfl rfl) ?_
 refine lw 12 (J (b.safe.length : Int)) (s_len ((hm6.see 1 rfl).1) rfl Tryd.underlying22 rfl) ?_
 simp only [nz]
 refine lvb 13 (¬ a.safe.length = b.safe.length) rfl rfl (r_neq a.safe.length b.safe.length rfl rfl rfl) (fun hs10 => ?_) (fun hs10 => ?_)
 ·simp only [nz]
  refine lm 14 (.bool true) ?_
  simp only [nz]
  refine lst_skip 15 rfl rfl ?_
  simp only [nz]
  refine lst_skip 16 rfl rfl ?_
  simp only [nz]
  refine lst_skip 17 rfl rfl ?_
  simp only [nz]
  refine lst_skip 18 rfl rfl ?_
  simp only [nz]
  refine lst_skip 19 rfl rfl ?_
  simp only [nz]
  refine lst_skip 20 rfl rfl ?_
  simp only [nz]
  refine lst_skip 21 rfl rfl ?_
  simp only [nz]
  refine lw 22 (.bool true) (run_pick rfl rfl rfl) ?_
  refine lm 23 (.bool true) ?_
  simp only [nz]
  refine lst_skip 24 rfl rfl ?_
  simp only [nz]
  refine lst_skip 25 rfl rfl ?_
  simp only [nz]
  refine lst_skip 26 rfl rfl ?_
  simp only [nz]
  refine lst_skip 27 rfl rfl ?_
  simp only [nz]
  refine lst_skip 28 rfl rfl ?_
  simp only [nz]
  refine lw 29 (.bool true) (run_pick rfl rfl rfl) ?_
  refine lm 30 (.bool true) ?_
  simp only [nz]
  refine lst_skip 31 rfl rfl ?_
  simp only [nz]
  refine lst_skip 32 rfl rfl ?_
  simp only [nz]
  refine lst_skip 33 rfl rfl ?_
  simp only [nz]
  refine lst_skip 34 rfl rfl ?_
  simp only [nz]
  refine lst_skip 35 rfl rfl ?_
  simp only [nz]
  refine lw 36 (.bool true) (run_pick rfl rfl rfl) ?_
  simp only [nz]
  refine wn (tj (hK9 _ _ ?_))
  refine cond_t rfl ?_
  refine wk (fun K11 hK11 => (wq ?_))
  refine la 4 (.bool false) ?_
  simp only [nz]
  refine wn (tj (hK11 _ _ (wp_ret (then_r ?_))))
  have he12 : same_m a b = false := by unfold same_m; rw [if_pos hs10] <;> rfl
  exact ⟨rfl, .bool false, res_t rfl rfl, ⟨by (rw [he12]; try rfl), hm6.below⟩⟩
 simp only [nz]
 refine lm 14 (.bool false) ?_
 refine lw 15 (Pp g4 1) (r_fa25_1 g4 0 rfl rfl) ?_
 refine lw 16 (av1) (r_load (hm6.at 2 rfl) rfl Tryd.underlying23 rfl rfl rfl) ?_
 simp only [nz]
 refine lw 17 (J (a.loose.length : Int)) (s_len ((hm6.see 0 rfl).2) rfl Tryd.underlying23 rfl) ?_
 refine lw 18 (Pp g7 1) (r_fa25_1 g7 0 rfl rfl) ?_
 refine lw 19 (bv1) (r_load (hm6.at 3 rfl) rfl Tryd.underlying23 rfl rfl rfl) ?_
 simp only [nz]
 refine lw 20 (J (b.loose.length : Int)) (s_len ((hm6.see 1 rfl).2) rfl Tryd.underlying23 rfl) ?_
 simp only [nz]
 refine lvb 21 (¬ a.loose.length = b.loose.length) rfl rfl (r_neq a.loose.length b.loose.length rfl rfl rfl) (fun hs13 => ?_) (fun hs13 => ?_)
 ·simp only [nz]
  refine lw 22 (.bool true) (run_pickf rfl rfl rfl) ?_
  refine lm 23 (.bool true) ?_
  simp only [nz]
  refine lst_skip 24 rfl rfl ?_
  simp only [nz]
  refine lst_skip 25 rfl rfl ?_
  simp only [nz]
  refine lst_skip 26 rfl rfl ?_
  simp only [nz]
  refine lst_skip 27 rfl rfl ?_
  simp only [nz]
  refine lst_skip 28 rfl rfl ?_
  simp only [nz]
  refine lw 29 (.bool true) (run_pick rfl rfl rfl) ?_
  refine lm 30 (.bool true) ?_
  simp only [nz]
  refine lst_skip 31 rfl rfl ?_
  simp only [nz]
  refine lst_skip 32 rfl rfl ?_
  simp only [nz]
  refine lst_skip 33 rfl rfl ?_
  simp only [nz]
  refine lst_skip 34 rfl rfl ?_
  simp only [nz]
  refine lst_skip 35 rfl rfl ?_
  simp only [nz]
  refine lw 36 (.bool true) (run_pick rfl rfl rfl) ?_
  simp only [nz]
  refine wn (tj (hK9 _ _ ?_))
  refine cond_t rfl ?_
  refine wk (fun K14 hK14 => (wq ?_))
  refine la 4 (.bool false) ?_
  simp only [nz]
  refine wn (tj (hK14 _ _ (wp_ret (then_r ?_))))
  have he15 : same_m a b = false := by unfold same_m; rw [if_neg hs10, if_pos hs13] <;> rfl
  exact ⟨rfl, .bool false, res_t rfl rfl, ⟨by (rw [he15]; try rfl), hm6.below⟩⟩
 simp only [nz]
 refine lw 22 (.bool false) (run_pickf rfl rfl rfl) ?_
 refine lm 23 (.bool false) ?_
 refine lw 24 (Pp g4 2) (r_fa25_2 g4 0 rfl rfl) ?_
 simp only [nz]
 refine lw 25 (J (a.fuse)) (r_load (hm6.at 2 rfl) rfl Tryd.underlying3 rfl rfl rfl) ?_
 refine lw 26 (Pp g7 2) (r_fa25_2 g7 0 rfl rfl) ?_
 refine lw 27 (J (b.fuse)) (r_load (hm6.at 3 rfl) rfl Tryd.underlying3 rfl rfl rfl) ?_
 simp only [nz]
 refine lvb 28 (¬ a.fuse = b.fuse) rfl rfl (z_neq a.fuse b.fuse rfl rfl rfl) (fun hs16 => ?_) (fun hs16 => ?_)
 ·simp only [nz]
  refine lw 29 (.bool true) (run_pickf rfl rfl rfl) ?_
  refine lm 30 (.bool true) ?_
  simp only [nz]
  refine lst_skip 31 rfl rfl ?_
  simp only [nz]
  refine lst_skip 32 rfl rfl ?_
  simp only [nz]
  refine lst_skip 33 rfl rfl ?_
  simp only [nz]
  refine lst_skip 34 rfl rfl ?_
  simp only [nz]
  refine lst_skip 35 rfl rfl ?_
  simp only [nz]
  refine lw 36 (.bool true) (run_pick rfl rfl rfl) ?_
  simp only [nz]
  refine wn (tj (hK9 _ _ ?_))
  refine cond_t rfl ?_
  refine wk (fun K17 hK17 => (wq ?_))
  refine la 4 (.bool false) ?_
  simp only [nz]
  refine wn (tj (hK17 _ _ (wp_ret (then_r ?_))))
  have he18 : same_m a b = false := by unfold same_m; rw [if_neg hs10, if_neg hs13, if_pos hs16] <;> rfl
  exact ⟨rfl, .bool false, res_t rfl rfl, ⟨by (rw [he18]; try rfl), hm6.below⟩⟩
 simp only [nz]
 refine lw 29 (.bool false) (run_pickf rfl rfl rfl) ?_
 refine lm 30 (.bool false) ?_
 refine lw 31 (Pp g4 3) (r_fa25_3 g4 0 rfl rfl) ?_
 simp only [nz]
 refine lw 32 (.bool (a.down)) (r_load (hm6.at 2 rfl) rfl Tryd.underlying4 rfl rfl rfl) ?_
 refine lw 33 (Pp g7 3) (r_fa25_3 g7 0 rfl rfl) ?_
 refine lw 34 (.bool (b.down)) (r_load (hm6.at 3 rfl) rfl Tryd.underlying4 rfl rfl rfl) ?_
 simp only [nz]
 refine lw 35 (.bool (a.down != b.down)) (b_neq a.down b.down rfl rfl rfl) ?_
 refine lw 36 (.bool (a.down != b.down)) (run_pickf rfl rfl rfl) ?_
 simp only [nz]
 refine wn (tj (hK9 _ _ ?_))
 refine cond_B (a.down != b.down) rfl (fun hc19 => ?_) (fun hc19 => ?_)
 ·refine wk (fun K20 hK20 => (wq ?_))
  refine la 4 (.bool false) ?_
  simp only [nz]
  refine wn (tj (hK20 _ _ (wp_ret (then_r ?_))))
  have he21 : same_m a b = false := by unfold same_m; rw [if_neg hs10, if_neg hs13, if_neg hs16, if_pos hc19] <;> rfl
  exact ⟨rfl, .bool false, res_t rfl rfl, ⟨by (rw [he21]; try rfl), hm6.below⟩⟩
 refine wp_skip (tj (hK8 _ _ (wk (fun K22 hK22 => (wk (fun K23 hK23 => (wq ?_)))))))
 refine la 5 (J 0) ?_
 simp only [nz]
 refine wn (tj (hK23 _ _ ?_))
 refine wp_cutK (fun a' w' => ∃ (y28 : Nat) (yu0 : Nat → Value), same_m_l0 a b ((a.safe.length - 0) + 1) 0 = .inl y28 ∧ a' = ⟨#[.agg #[av0, av1, J (a.fuse), .bool (a.down)], .agg #[bv0, bv1, J (b.fuse), .bool (b.down)], Pp g4 0, Pp g7 0, yu0 0, J (y28 : Int), undef, Pp g4 0, av0, J (a.safe.length : Int), Pp g7 0, bv0, J (b.safe.length : Int), .bool false, .bool false, Pp g4 1, av1, J (a.loose.length : Int), Pp g7 1, bv1, J (b.loose.length : Int), .bool false, .bool false, .bool false, Pp g4 2, J (a.fuse), Pp g7 2, J (b.fuse), .bool false, .bool false, .bool false, Pp g4 3, .bool (a.down), Pp g7 3, .bool (b.down), .bool (a.down != b.down), .bool (a.down != b.down), yu0 1, yu0 2, yu0 3, yu0 4, yu0 5, yu0 6, yu0 7, yu0 8, yu0 9, yu0 10, yu0 11, yu0 12, yu0 13, yu0 14, yu0 15, yu0 16, yu0 17, yu0 18, undef, undef, undef, undef, undef, undef, undef, undef, undef, undef, undef, undef, undef, undef, undef, undef, undef, undef], []⟩ ∧ Mm none (fun _ => True) w w' [.see (DkR a av0 av1) Fa, .see (DkR b bv0 bv1) Fb, .blk g4 #[av0, av1, J (a.fuse), .bool (a.down)] 25, .blk g7 #[bv0, bv1, J (b.fuse), .bool (b.down)] 25]) ?_ ?_
 ·refine wp_block ?_
  refine wp_loop_n (fun n' a' w' => ∃ (n25 : Nat) (x24 : Nat) (u0 : Nat → Value), n' = n25 ∧ (a.safe.length - x24) < n25 ∧ same_m_l0 a b ((a.safe.length - 0) + 1) 0 = same_m_l0 a b n25 x24 ∧ a' = ⟨#[.agg #[av0, av1, J (a.fuse), .bool (a.down)], .agg #[bv0, bv1, J (b.fuse), .bool (b.down)], Pp g4 0, Pp g7 0, u0 0, J (x24 : Int), undef, Pp g4 0, av0, J (a.safe.length : Int), Pp g7 0, bv0, J (b.safe.length : Int), .bool false, .bool false, Pp g4 1, av1, J (a.loose.length : Int), Pp g7 1, bv1, J (b.loose.length : Int), .bool false, .bool false, .bool false, Pp g4 2, J (a.fuse), Pp g7 2, J (b.fuse), .bool false, .bool false, .bool false, Pp g4 3, .bool (a.down), Pp g7 3, .bool (b.down), .bool (a.down != b.down), .bool (a.down != b.down), u0 1, u0 2, u0 3, u0 4, u0 5, u0 6, u0 7, u0 8, u0 9, u0 10, u0 11, u0 12, u0 13, u0 14, u0 15, u0 16, u0 17, u0 18, undef, undef, undef, undef, undef, undef, undef, undef, undef, undef, undef, undef, undef, undef, undef, undef, undef, undef], []⟩ ∧ Mm none (fun _ => True) w w' [.see (DkR a av0 av1) Fa, .see (DkR b bv0 bv1) Fb, .blk g4 #[av0, av1, J (a.fuse), .bool (a.down)] 25, .blk g7 #[bv0, bv1, J (b.fuse), .bool (b.down)] 25]) ⟨((a.safe.length - 0) + 1), 0, (fun qq => List.getD [.bool false, undef, undef, undef, undef, undef, undef, undef, undef, undef, undef, undef, undef, undef, undef, undef, undef, undef, undef] qq undef), rfl, Nat.lt_succ_self _, rfl, rfl, hm6⟩ ?_
  rintro n25 _ w30 ⟨_, x24, u0, rfl, hl34, hi27, rfl, hm31⟩ R32 hR32
  obtain ⟨k26, rfl⟩ : ∃ k, n25 = k + 1 := ⟨n25 - 1, by omega⟩
  refine wk (fun K35 hK35 => (wk (fun K36 hK36 => (wq ?_))))
  refine lm 37 (J (x24 : Int)) ?_
  refine lw 38 (Pp g4 0) (r_fa25_0 g4 0 rfl rfl) ?_
  refine lw 39 (av0) (r_load (hm31.at 2 rfl) rfl Tryd.underlying22 rfl rfl rfl) ?_
  simp only [nz]
  refine lw 40 (J (a.safe.length : Int)) (s_len ((hm31.see 0 rfl).1) rfl Tryd.underlying22 rfl) ?_
  refine lw 41 (.bool (decide (x24 < a.safe.length))) (r_lss x24 a.safe.length rfl rfl rfl) ?_
  simp only [nz]
  refine wn (tj (hK36 _ _ ?_))
  refine cond_d (x24 < a.safe.length) rfl (fun hc37 => ?_) (fun hc37 => ?_)
  rotate_left
  ·refine wp_exit (then_x (then_x (blk_x ?_)))
   refine tj ?_
   exact ⟨x24, (fun qq => List.getD [u0 0, J (x24 : Int), Pp g4 0, av0, J (a.safe.length : Int), .bool (decide (x24 < a.safe.length)), u0 6, u0 7, u0 8, u0 9, u0 10, u0 11, u0 12, u0 13, u0 14, u0 15, u0 16, u0 17, u0 18] qq undef), (hi27.trans (show same_m_b0 a b (same_m_l0 a b k26) x24 = .inl x24 from by unfold same_m_b0; rw [if_neg hc37] <;> rfl)), rfl, hm31⟩
  refine wp_skip (tj (hK35 _ _ (wk (fun K38 hK38 => ?_))))
  refine wp_block ?_
  refine wk (fun K39 hK39 => ?_)
  have hm40 := hm31.drew
  refine wp_region_held_drew (S := fun w' => Mem.Blk w' g4 (#[av0, av1, J (a.fuse), .bool (a.down)]) 25 ∧ Mem.Blk w' g7 (#[bv0, bv1, J (b.fuse), .bool (b.down)]) 25 ∧ Rs eS 1 a.safe av0 w' ∧ Rs eS 1 b.safe bv0 w') (by kernel_rfl) (⟨hm40.at 2 rfl, hm40.at 3 rfl, ((hm40.see 0 rfl).1), ((hm40.see 1 rfl).1)⟩) (fun _ => ?_)
  generalize w30.drew = w41 at *
  refine tk 0 44 (Pp g4 0) rfl rfl (fun _ hw => r_fa25_0 g4 0 rfl rfl) (⟨hm40.at 2 rfl, hm40.at 3 rfl, ((hm40.see 0 rfl).1), ((hm40.see 1 rfl).1)⟩) ?_
  simp only [nz]
  refine tk 1 45 (av0) rfl rfl (fun _ hw => r_load hw.1 rfl Tryd.underlying22 rfl rfl rfl) (⟨hm40.at 2 rfl, hm40.at 3 rfl, ((hm40.see 0 rfl).1), ((hm40.see 1 rfl).1)⟩) ?_
  simp only [nz]
  refine tk 2 46 (J (x24 : Int)) rfl rfl (fun _ hw => run_mv rfl rfl) (⟨hm40.at 2 rfl, hm40.at 3 rfl, ((hm40.see 0 rfl).1), ((hm40.see 1 rfl).1)⟩) ?_
  simp only [nz]
  refine tk 3 47 (.pointer (some ⟨(bk av0), (po av0 + x24 * 1), none⟩)) rfl rfl (fun _ hw => r_ixv ((hm40.see 0 rfl).1) x24 (by omega) Tryd.underlying22 sz_9 rfl rfl rfl) (⟨hm40.at 2 rfl, hm40.at 3 rfl, ((hm40.see 0 rfl).1), ((hm40.see 1 rfl).1)⟩) ?_
  simp only [nz]
  refine tk 4 48 (.string (tx (a.safe.getD x24 []))) rfl rfl (fun _ hw => r_cellw (Rs.cell hw.2.2.1 eS_len [] x24 (by omega) 0 _ rfl) Tryd.underlying9 rfl rfl rfl) (⟨hm40.at 2 rfl, hm40.at 3 rfl, ((hm40.see 0 rfl).1), ((hm40.see 1 rfl).1)⟩) ?_
  simp only [nz]
  refine tk 5 49 (Pp g7 0) rfl rfl (fun _ hw => r_fa25_0 g7 0 rfl rfl) (⟨hm40.at 2 rfl, hm40.at 3 rfl, ((hm40.see 0 rfl).1), ((hm40.see 1 rfl).1)⟩) ?_
  simp only [nz]
  refine tk 6 50 (bv0) rfl rfl (fun _ hw => r_load hw.2.1 rfl Tryd.underlying22 rfl rfl rfl) (⟨hm40.at 2 rfl, hm40.at 3 rfl, ((hm40.see 0 rfl).1), ((hm40.see 1 rfl).1)⟩) ?_
  simp only [nz]
  refine tk 7 51 (J (x24 : Int)) rfl rfl (fun _ hw => run_mv rfl rfl) (⟨hm40.at 2 rfl, hm40.at 3 rfl, ((hm40.see 0 rfl).1), ((hm40.see 1 rfl).1)⟩) ?_
  simp only [nz]
  refine tk 8 52 (.pointer (some ⟨(bk bv0), (po bv0 + x24 * 1), none⟩)) rfl rfl (fun _ hw => r_ixv ((hm40.see 1 rfl).1) x24 (by omega) Tryd.underlying22 sz_9 rfl rfl rfl) (⟨hm40.at 2 rfl, hm40.at 3 rfl, ((hm40.see 0 rfl).1), ((hm40.see 1 rfl).1)⟩) ?_
  simp only [nz]
  refine tk 9 53 (.string (tx (b.safe.getD x24 []))) rfl rfl (fun _ hw => r_cellw (Rs.cell hw.2.2.2 eS_len [] x24 (by omega) 0 _ rfl) Tryd.underlying9 rfl rfl rfl) (⟨hm40.at 2 rfl, hm40.at 3 rfl, ((hm40.see 0 rfl).1), ((hm40.see 1 rfl).1)⟩) ?_
  simp only [nz]
  refine tk 10 54 (.bool (decide (¬ (a.safe.getD x24 []) = (b.safe.getD x24 [])))) rfl rfl (fun _ hw => t_neq (a.safe.getD x24 []) (b.safe.getD x24 []) rfl rfl rfl) (⟨hm40.at 2 rfl, hm40.at 3 rfl, ((hm40.see 0 rfl).1), ((hm40.see 1 rfl).1)⟩) ?_
  simp only [nz]
  refine wpAnyH_done (by kernel_rfl) ?_ _
  refine tj (hK39 _ _ ?_)
  refine cond_d (¬ (a.safe.getD x24 []) = (b.safe.getD x24 [])) rfl (fun hc42 => ?_) (fun hc42 => ?_)
  rotate_left
  ·refine wp_skip (blk_n (tj (hK38 _ _ (wq ?_))))
   refine lm 42 (J (x24 : Int)) ?_
   refine lw 43 (J (((x24 + 1) : Nat) : Int)) (r_add x24 1 (show (x24 + 1) < 9223372036854775808 from by omega) rfl rfl rfl) ?_
   refine la 5 (J (((x24 + 1) : Nat) : Int)) ?_
   simp only [nz]
   refine wn ?_
   refine tj (hR32 _ _ _ ⟨k26, (x24 + 1), (fun qq => List.getD [u0 0, J (x24 : Int), Pp g4 0, av0, J (a.safe.length : Int), .bool (decide (x24 < a.safe.length)), J (x24 : Int), J (((x24 + 1) : Nat) : Int), Pp g4 0, av0, J (x24 : Int), .pointer (some ⟨(bk av0), (po av0 + x24 * 1), none⟩), .string (tx (a.safe.getD x24 [])), Pp g7 0, bv0, J (x24 : Int), .pointer (some ⟨(bk bv0), (po bv0 + x24 * 1), none⟩), .string (tx (b.safe.getD x24 [])), .bool (decide (¬ (a.safe.getD x24 []) = (b.safe.getD x24 [])))] qq undef), rfl, (by omega), (hi27.trans (show same_m_b0 a b (same_m_l0 a b k26) x24 = same_m_l0 a b k26 (x24 + 1) from by unfold same_m_b0; rw [if_pos hc37, if_neg hc42] <;> rfl)), rfl, hm40⟩ ?_)
   omega
  refine wk (fun K43 hK43 => (wq ?_))
  refine la 4 (.bool false) ?_
  simp only [nz]
  refine wn (tj (hK43 _ _ (wp_ret (blk_r (then_r (then_r (blk_r (then_r (then_r ?_)))))))))
  have he44 : same_m_l0 a b ((a.safe.length - 0) + 1) 0 = .inr false := (hi27.trans (show same_m_b0 a b (same_m_l0 a b k26) x24 = .inr false from by unfold same_m_b0; rw [if_pos hc37, if_pos hc42] <;> rfl))
  have he45 : same_m a b = false := by unfold same_m; rw [if_neg hs10, if_neg hs13, if_neg hs16, if_neg hc19, he44] <;> rfl
  exact ⟨rfl, .bool false, res_t rfl rfl, ⟨by (rw [he45]; try rfl), hm40.below⟩⟩
 rintro _ w46 ⟨y28, yu0, hx29, rfl, hm47⟩
 have hq48 : same_m a b = same_m_k0 a b y28 := (show same_m a b = same_m_k0 a b y28 from by unfold same_m; rw [if_neg hs10, if_neg hs13, if_neg hs16, if_neg hc19, hx29] <;> rfl)
 refine tj (hK22 _ _ (wk (fun K49 hK49 => (wk (fun K50 hK50 => (wq ?_))))))
 refine la 6 (J 0) ?_
 simp only [nz]
 refine wn (tj (hK50 _ _ ?_))
 refine wp_cutK (fun a' w' => ∃ (y55 : Nat) (yu1 : Nat → Value), same_m_l1 a b y28 ((a.loose.length - 0) + 1) 0 = .inl y55 ∧ a' = ⟨#[.agg #[av0, av1, J (a.fuse), .bool (a.down)], .agg #[bv0, bv1, J (b.fuse), .bool (b.down)], Pp g4 0, Pp g7 0, yu1 0, J (y28 : Int), J (y55 : Int), Pp g4 0, av0, J (a.safe.length : Int), Pp g7 0, bv0, J (b.safe.length : Int), .bool false, .bool false, Pp g4 1, av1, J (a.loose.length : Int), Pp g7 1, bv1, J (b.loose.length : Int), .bool false, .bool false, .bool false, Pp g4 2, J (a.fuse), Pp g7 2, J (b.fuse), .bool false, .bool false, .bool false, Pp g4 3, .bool (a.down), Pp g7 3, .bool (b.down), .bool (a.down != b.down), .bool (a.down != b.down), yu0 1, yu0 2, yu0 3, yu0 4, yu0 5, yu0 6, yu0 7, yu0 8, yu0 9, yu0 10, yu0 11, yu0 12, yu0 13, yu0 14, yu0 15, yu0 16, yu0 17, yu0 18, yu1 1, yu1 2, yu1 3, yu1 4, yu1 5, yu1 6, yu1 7, yu1 8, yu1 9, yu1 10, yu1 11, yu1 12, yu1 13, yu1 14, yu1 15, yu1 16, yu1 17, yu1 18], []⟩ ∧ Mm none (fun _ => True) w w' [.see (DkR a av0 av1) Fa, .see (DkR b bv0 bv1) Fb, .blk g4 #[av0, av1, J (a.fuse), .bool (a.down)] 25, .blk g7 #[bv0, bv1, J (b.fuse), .bool (b.down)] 25]) ?_ ?_
 ·refine wp_block ?_
  refine wp_loop_n (fun n' a' w' => ∃ (n52 : Nat) (x51 : Nat) (u1 : Nat → Value), n' = n52 ∧ (a.loose.length - x51) < n52 ∧ same_m_l1 a b y28 ((a.loose.length - 0) + 1) 0 = same_m_l1 a b y28 n52 x51 ∧ a' = ⟨#[.agg #[av0, av1, J (a.fuse), .bool (a.down)], .agg #[bv0, bv1, J (b.fuse), .bool (b.down)], Pp g4 0, Pp g7 0, u1 0, J (y28 : Int), J (x51 : Int), Pp g4 0, av0, J (a.safe.length : Int), Pp g7 0, bv0, J (b.safe.length : Int), .bool false, .bool false, Pp g4 1, av1, J (a.loose.length : Int), Pp g7 1, bv1, J (b.loose.length : Int), .bool false, .bool false, .bool false, Pp g4 2, J (a.fuse), Pp g7 2, J (b.fuse), .bool false, .bool false, .bool false, Pp g4 3, .bool (a.down), Pp g7 3, .bool (b.down), .bool (a.down != b.down), .bool (a.down != b.down), yu0 1, yu0 2, yu0 3, yu0 4, yu0 5, yu0 6, yu0 7, yu0 8, yu0 9, yu0 10, yu0 11, yu0 12, yu0 13, yu0 14, yu0 15, yu0 16, yu0 17, yu0 18, u1 1, u1 2, u1 3, u1 4, u1 5, u1 6, u1 7, u1 8, u1 9, u1 10, u1 11, u1 12, u1 13, u1 14, u1 15, u1 16, u1 17, u1 18], []⟩ ∧ Mm none (fun _ => True) w w' [.see (DkR a av0 av1) Fa, .see (DkR b bv0 bv1) Fb, .blk g4 #[av0, av1, J (a.fuse), .bool (a.down)] 25, .blk g7 #[bv0, bv1, J (b.fuse), .bool (b.down)] 25]) ⟨((a.loose.length - 0) + 1), 0, (fun qq => List.getD [yu0 0, undef, undef, undef, undef, undef, undef, undef, undef, undef, undef, undef, undef, undef, undef, undef, undef, undef, undef] qq undef), rfl, Nat.lt_succ_self _, rfl, rfl, hm47⟩ ?_
  rintro n52 _ w57 ⟨_, x51, u1, rfl, hl61, hi54, rfl, hm58⟩ R59 hR59
  obtain ⟨k53, rfl⟩ : ∃ k, n52 = k + 1 := ⟨n52 - 1, by omega⟩
  refine wk (fun K62 hK62 => (wk (fun K63 hK63 => (wq ?_))))
  refine lm 55 (J (x51 : Int)) ?_
  refine lw 56 (Pp g4 1) (r_fa25_1 g4 0 rfl rfl) ?_
  refine lw 57 (av1) (r_load (hm58.at 2 rfl) rfl Tryd.underlying23 rfl rfl rfl) ?_
  simp only [nz]
  refine lw 58 (J (a.loose.length : Int)) (s_len ((hm58.see 0 rfl).2) rfl Tryd.underlying23 rfl) ?_
  refine lw 59 (.bool (decide (x51 < a.loose.length))) (r_lss x51 a.loose.length rfl rfl rfl) ?_
  simp only [nz]
  refine wn (tj (hK63 _ _ ?_))
  refine cond_d (x51 < a.loose.length) rfl (fun hc64 => ?_) (fun hc64 => ?_)
  rotate_left
  ·refine wp_exit (then_x (then_x (blk_x ?_)))
   refine tj ?_
   exact ⟨x51, (fun qq => List.getD [u1 0, J (x51 : Int), Pp g4 1, av1, J (a.loose.length : Int), .bool (decide (x51 < a.loose.length)), u1 6, u1 7, u1 8, u1 9, u1 10, u1 11, u1 12, u1 13, u1 14, u1 15, u1 16, u1 17, u1 18] qq undef), (hi54.trans (show same_m_b1 a b y28 (same_m_l1 a b y28 k53) x51 = .inl x51 from by unfold same_m_b1; rw [if_neg hc64] <;> rfl)), rfl, hm58⟩
  refine wp_skip (tj (hK62 _ _ (wk (fun K65 hK65 => ?_))))
  refine wp_block ?_
  refine wk (fun K66 hK66 => ?_)
  have hm67 := hm58.drew
  refine wp_region_held_drew (S := fun w' => Mem.Blk w' g4 (#[av0, av1, J (a.fuse), .bool (a.down)]) 25 ∧ Mem.Blk w' g7 (#[bv0, bv1, J (b.fuse), .bool (b.down)]) 25 ∧ Rs eWr 2 a.loose av1 w' ∧ Rs eWr 2 b.loose bv1 w') (by kernel_rfl) (⟨hm67.at 2 rfl, hm67.at 3 rfl, ((hm67.see 0 rfl).2), ((hm67.see 1 rfl).2)⟩) (fun _ => ?_)
  generalize w57.drew = w68 at *
  refine tk 0 62 (Pp g4 1) rfl rfl (fun _ hw => r_fa25_1 g4 0 rfl rfl) (⟨hm67.at 2 rfl, hm67.at 3 rfl, ((hm67.see 0 rfl).2), ((hm67.see 1 rfl).2)⟩) ?_
  simp only [nz]
  refine tk 1 63 (av1) rfl rfl (fun _ hw => r_load hw.1 rfl Tryd.underlying23 rfl rfl rfl) (⟨hm67.at 2 rfl, hm67.at 3 rfl, ((hm67.see 0 rfl).2), ((hm67.see 1 rfl).2)⟩) ?_
  simp only [nz]
  refine tk 2 64 (J (x51 : Int)) rfl rfl (fun _ hw => run_mv rfl rfl) (⟨hm67.at 2 rfl, hm67.at 3 rfl, ((hm67.see 0 rfl).2), ((hm67.see 1 rfl).2)⟩) ?_
  simp only [nz]
  refine tk 3 65 (.pointer (some ⟨(bk av1), (po av1 + x51 * 2), none⟩)) rfl rfl (fun _ hw => r_ixv ((hm67.see 0 rfl).2) x51 (by omega) Tryd.underlying23 sz_51 rfl rfl rfl) (⟨hm67.at 2 rfl, hm67.at 3 rfl, ((hm67.see 0 rfl).2), ((hm67.see 1 rfl).2)⟩) ?_
  simp only [nz]
  refine tk 4 66 (.agg #[J ((a.loose.getD x51 dWr).at_), .string (tx ((a.loose.getD x51 dWr).data))]) rfl rfl (fun _ hw => r_partw (fun j u hj => Rs.cell hw.2.2.1 eWr_len dWr x51 (by omega) j u (arr_get hj)) Tryd.underlying51 rfl (by exact sz_51) rfl rfl) (⟨hm67.at 2 rfl, hm67.at 3 rfl, ((hm67.see 0 rfl).2), ((hm67.see 1 rfl).2)⟩) ?_
  simp only [nz]
  refine tk 5 67 (Pp g7 1) rfl rfl (fun _ hw => r_fa25_1 g7 0 rfl rfl) (⟨hm67.at 2 rfl, hm67.at 3 rfl, ((hm67.see 0 rfl).2), ((hm67.see 1 rfl).2)⟩) ?_
  simp only [nz]
  refine tk 6 68 (bv1) rfl rfl (fun _ hw => r_load hw.2.1 rfl Tryd.underlying23 rfl rfl rfl) (⟨hm67.at 2 rfl, hm67.at 3 rfl, ((hm67.see 0 rfl).2), ((hm67.see 1 rfl).2)⟩) ?_
  simp only [nz]
  refine tk 7 69 (J (x51 : Int)) rfl rfl (fun _ hw => run_mv rfl rfl) (⟨hm67.at 2 rfl, hm67.at 3 rfl, ((hm67.see 0 rfl).2), ((hm67.see 1 rfl).2)⟩) ?_
  simp only [nz]
  refine tk 8 70 (.pointer (some ⟨(bk bv1), (po bv1 + x51 * 2), none⟩)) rfl rfl (fun _ hw => r_ixv ((hm67.see 1 rfl).2) x51 (by omega) Tryd.underlying23 sz_51 rfl rfl rfl) (⟨hm67.at 2 rfl, hm67.at 3 rfl, ((hm67.see 0 rfl).2), ((hm67.see 1 rfl).2)⟩) ?_
  simp only [nz]
  refine tk 9 71 (.agg #[J ((b.loose.getD x51 dWr).at_), .string (tx ((b.loose.getD x51 dWr).data))]) rfl rfl (fun _ hw => r_partw (fun j u hj => Rs.cell hw.2.2.2 eWr_len dWr x51 (by omega) j u (arr_get hj)) Tryd.underlying51 rfl (by exact sz_51) rfl rfl) (⟨hm67.at 2 rfl, hm67.at 3 rfl, ((hm67.see 0 rfl).2), ((hm67.see 1 rfl).2)⟩) ?_
  simp only [nz]
  refine tk 10 72 (.bool (decide (¬ (a.loose.getD x51 dWr) = (b.loose.getD x51 dWr)))) rfl rfl (fun _ hw => c51_neq (a.loose.getD x51 dWr) (b.loose.getD x51 dWr) rfl rfl rfl) (⟨hm67.at 2 rfl, hm67.at 3 rfl, ((hm67.see 0 rfl).2), ((hm67.see 1 rfl).2)⟩) ?_
  simp only [nz]
  refine wpAnyH_done (by kernel_rfl) ?_ _
  refine tj (hK66 _ _ ?_)
  refine cond_d (¬ (a.loose.getD x51 dWr) = (b.loose.getD x51 dWr)) rfl (fun hc69 => ?_) (fun hc69 => ?_)
  rotate_left
  ·refine wp_skip (blk_n (tj (hK65 _ _ (wq ?_))))
   refine lm 60 (J (x51 : Int)) ?_
   refine lw 61 (J (((x51 + 1) : Nat) : Int)) (r_add x51 1 (show (x51 + 1) < 9223372036854775808 from by omega) rfl rfl rfl) ?_
   refine la 6 (J (((x51 + 1) : Nat) : Int)) ?_
   simp only [nz]
   refine wn ?_
   refine tj (hR59 _ _ _ ⟨k53, (x51 + 1), (fun qq => List.getD [u1 0, J (x51 : Int), Pp g4 1, av1, J (a.loose.length : Int), .bool (decide (x51 < a.loose.length)), J (x51 : Int), J (((x51 + 1) : Nat) : Int), Pp g4 1, av1, J (x51 : Int), .pointer (some ⟨(bk av1), (po av1 + x51 * 2), none⟩), .agg #[J ((a.loose.getD x51 dWr).at_), .string (tx ((a.loose.getD x51 dWr).data))], Pp g7 1, bv1, J (x51 : Int), .pointer (some ⟨(bk bv1), (po bv1 + x51 * 2), none⟩), .agg #[J ((b.loose.getD x51 dWr).at_), .string (tx ((b.loose.getD x51 dWr).data))], .bool (decide (¬ (a.loose.getD x51 dWr) = (b.loose.getD x51 dWr)))] qq undef), rfl, (by omega), (hi54.trans (show same_m_b1 a b y28 (same_m_l1 a b y28 k53) x51 = same_m_l1 a b y28 k53 (x51 + 1) from by unfold same_m_b1; rw [if_pos hc64, if_neg hc69] <;> rfl)), rfl, hm67⟩ ?_)
   omega
  refine wk (fun K70 hK70 => (wq ?_))
  refine la 4 (.bool false) ?_
  simp only [nz]
  refine wn (tj (hK70 _ _ (wp_ret (blk_r (then_r (then_r (blk_r (then_r (then_r ?_)))))))))
  have he71 : same_m_l1 a b y28 ((a.loose.length - 0) + 1) 0 = .inr false := (hi54.trans (show same_m_b1 a b y28 (same_m_l1 a b y28 k53) x51 = .inr false from by unfold same_m_b1; rw [if_pos hc64, if_pos hc69] <;> rfl))
  have he72 : same_m a b = false := (hq48.trans (show same_m_k0 a b y28 = false from by unfold same_m_k0; rw [he71] <;> rfl))
  exact ⟨rfl, .bool false, res_t rfl rfl, ⟨by (rw [he72]; try rfl), hm67.below⟩⟩
 rintro _ w73 ⟨y55, yu1, hx56, rfl, hm74⟩
 have hq75 : same_m a b = same_m_k1 a b y28 y55 := (hq48.trans (show same_m_k0 a b y28 = same_m_k1 a b y28 y55 from by unfold same_m_k0; rw [hx56] <;> rfl))
 refine tj (hK49 _ _ (wk (fun K76 hK76 => (wq ?_))))
 refine la 4 (.bool true) ?_
 simp only [nz]
 refine wn (tj (hK76 _ _ (wp_ret ?_)))
 have he77 : same_m a b = true := (hq75.trans (show same_m_k1 a b y28 y55 = true from by unfold same_m_k1; rfl))
 exact ⟨rfl, .bool true, res_t rfl rfl, ⟨by (rw [he77]; try rfl), hm74.below⟩⟩
theorem run_same {o : Oper} {a : Act} {w : World} {x0 x1 : Operand} {v0 v1 : Value} (ho : o.op = .call { callee := .value (.func 24), args := #[x0, x1], argTypes := #[25, 25] }) (h0 : a.eval x0 = v0) (h1 : a.eval x1 = v1) :
  (execOp a.eval o).run Tryd.prog w = .ok (.enter 24 #[v0, v1]) w := by
 unfold execOp
 simp only [ho]
 have hf : a.eval (.func 24) = .func (.func 24) #[] #[] := rfl
 generalize a.eval = f at *
 go_simp
end Go.Proofs.YtnmaaijeamlplaaDoor.Bk
