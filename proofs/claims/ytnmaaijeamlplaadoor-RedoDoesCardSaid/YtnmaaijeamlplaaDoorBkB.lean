import Derived.Test.YtnmaaijeamlplaaDoorBkT
import Derived.Test.YtnmaaijeamlplaaDoorShelf
set_option linter.unusedVariables false
set_option linter.unusedSimpArgs false
set_option maxHeartbeats 4000000
set_option maxRecDepth 100000
namespace Go.Proofs.YtnmaaijeamlplaaDoor.Bk
open Go.RowKit
open Go.Proofs.YtnmaaijeamlplaaDoor.Sym Go.Proofs.YtnmaaijeamlplaaDoor.Mem
open Go.Proofs.YtnmaaijeamlplaaDoor.Sx hiding Mm m_alloc m_store m_call m_callx
attribute [local irreducible] wpList Oper.wp
def clone_m (l : List (List UInt8)) : List (List UInt8) := l
theorem clone_any (l : List (List UInt8)) (v : Value) (w : World) (hl : Rs eS 1 l v w) (hp0 : l.length ≤ 8796093022208) : Calls Tryd.prog 100 #[v] w (fun e w' => (∃ u, e = .returned u ∧ ∃ o0 : Value, u = o0 ∧ w'.ownsRow w.heap.size 9 1 o0 (clone_m l).length ((clone_m l).flatMap eS)) ∧ Below w.heap.size w w') := by
 obtain ⟨iq, hiq, hz1, hz2, hz3⟩ := inf_9
 obtain ⟨ao, c, rfl⟩ := Rd.form hl
 cases ao with
 | none =>
  have hl2 : l = [] := by
   rcases hl.2 with ⟨h0, _⟩ | ⟨g, o, c', h0, _⟩
   ·exact List.eq_nil_of_length_eq_zero h0
   cases h0
  subst hl2
  refine (Go.Proofs.Tryd.slices_Clone_nil _ _ _).mono ?_
  rintro e w' ⟨rfl, rfl⟩
  exact ⟨⟨_, rfl, _, rfl, World.ownsRow_nil _ _ _ _⟩, Below.refl _ _⟩
 | some a =>
  by_cases h0 : l = []
  ·subst h0
   refine (Go.Proofs.Tryd.slices_Clone_string_zero a c w).mono ?_
   rintro e w' ⟨v', rfl, h1, _, hb⟩
   exact ⟨⟨_, rfl, _, rfl, h1⟩, hb⟩
  rcases hl.2 with ⟨h1, _⟩ | ⟨g, o, c', h1, hc⟩
  ·exact absurd (List.eq_nil_of_length_eq_zero h1) h0
  simp only [Value.slice.injEq, Option.some.injEq] at h1
  obtain ⟨rfl, _, rfl⟩ := h1
  refine (Go.Proofs.Tryd.slices_Clone iq _ 1 16 hiq hz1 hz2 hz3 rfl (by decide) Tryd.sizeOf9 g o l.length c (l.flatMap eS) w (flat_len eS_len l) (by unfold maxLen; omega) (by omega) hc.1 (flat_one eS_one l)).mono ?_
  rintro e w' ⟨v', rfl, h2, _, hb⟩
  exact ⟨⟨_, rfl, _, rfl, h2⟩, hb⟩
def rep_m (s : List UInt8) (n : Int) : List UInt8 := Lib.repeatL s n.toNat
theorem rep_any (s : List UInt8) (n : Int) (w : World) (hp0 : 0 ≤ n) (hp1 : s.length * n.toNat ≤ 140737488355328 ∧ n ≤ 9223372036854775807) : Calls Tryd.prog 65 #[.string (tx s), J n] w (fun e w' => e = .returned (.string (tx (rep_m s n))) ∧ Below w.heap.size w w') := by
 have h := Go.Proofs.Tryd.strings_Repeat (tx s) n.toNat w (by omega) (by rw [tx_size]; exact hp1.1)
 rw [show ((n.toNat : Nat) : Int) = n by omega] at h
 exact h
theorem run_clone {o : Oper} {a : Act} {w : World} {x0 : Operand} {v0 : Value} (ho : o.op = .call { callee := .value (.func 100), args := #[x0], argTypes := #[22] }) (h0 : a.eval x0 = v0) :
  (execOp a.eval o).run Tryd.prog w = .ok (.enter 100 #[v0]) w := by
 unfold execOp
 simp only [ho]
 have hf : a.eval (.func 100) = .func (.func 100) #[] #[] := rfl
 generalize a.eval = f at *
 go_simp
theorem run_rep {o : Oper} {a : Act} {w : World} {x0 x1 : Operand} {v0 v1 : Value} (ho : o.op = .call { callee := .value (.func 65), args := #[x0, x1], argTypes := #[9, 3] }) (h0 : a.eval x0 = v0) (h1 : a.eval x1 = v1) :
  (execOp a.eval o).run Tryd.prog w = .ok (.enter 65 #[v0, v1]) w := by
 unfold execOp
 simp only [ho]
 have hf : a.eval (.func 65) = .func (.func 65) #[] #[] := rfl
 generalize a.eval = f at *
 go_simp
def copied_m (d : Dk) : Dk :=
 (Dk.mk (clone_m d.safe) (([] : List Wr) ++ d.loose) d.fuse d.down)
theorem copied_any (d : Dk) (dv0 : Value) (dv1 : Value) (w : World) (hd : DkR d dv0 dv1 w) (hp0 : d.safe.length ≤ 8796093022208) (hp1 : d.loose.length ≤ 5864070000000) : Calls Tryd.prog 94 #[.agg #[dv0, dv1, J (d.fuse), .bool (d.down)]] w (fun e w' => (∃ v, e = .returned v ∧ ∃ o0 o1 : Value, v = .agg #[o0, o1, J ((copied_m d).fuse), .bool ((copied_m d).down)] ∧ w'.ownsRow w.heap.size 9 1 o0 ((copied_m d).safe).length (((copied_m d).safe).flatMap eS) ∧ w'.ownsRow w.heap.size 51 2 o1 ((copied_m d).loose).length (((copied_m d).loose).flatMap eWr) ∧ (∀ g, Value.ownBlock o0 = some g → Value.ownBlock o1 ≠ some g)) ∧ Below w.heap.size w w') := by
 go_enter Tryd.func94, Tryd.ntmps94
 have hm00 := Mm.nil none (fun _ => True) w
 obtain ⟨Fd, hm01⟩ : ∃ Fd, Mm none (fun _ => True) w w [.see (DkR d dv0 dv1) Fd] := hm00.come (DkR_all hd)
 have hm0 := hm01
 refine wk (fun K1 hK1 => (wq ?_))
 refine lst rfl (m_alloc (c := #[dv0, dv1, J (d.fuse), .bool (d.down)]) (T := 25) hm0 1 rfl (run_box rfl rfl) (fun g4 w2 hm3 => ?_))
 simp only [nz]
 refine lst rfl (m_alloc (c := #[.slice none 0 0, .slice none 0 0, J 0, .bool false]) (T := 25) hm3 2 rfl (by unfold execOp; go_simp; try rfl) (fun g7 w5 hm6 => ?_))
 simp only [nz]
 refine wn (tj (hK1 _ _ (wk (fun K8 hK8 => (wq ?_)))))
 refine lw 3 (Pp g4 0) (r_fa25_0 g4 0 rfl rfl) ?_
 refine lw 4 (dv0) (r_load (hm6.at 1 rfl) rfl Tryd.underlying22 rfl rfl rfl) ?_
 simp only [nz]
 refine lst rfl (m_callx hm6 5 rfl (run_clone rfl rfl) (clone_any d.safe dv0 _ (hm6.see 0 rfl).1 (by omega)) (fun v11 w9 hR13 hb14 hm10 => ?_))
 obtain ⟨_, rfl, ho16⟩ := hR13
 have hm15 : Mm none (fun _ => True) w w9 [.see (DkR d dv0 dv1) Fd, .blk g4 #[dv0, dv1, J (d.fuse), .bool (d.down)] 25, .blk g7 #[.slice none 0 0, .slice none 0 0, J 0, .bool false] 25, .row v11 (clone_m d.safe).length ((clone_m d.safe).flatMap eS) 9 1] := hm6.gained hb14 ho16
 clear hm10
 simp only [nz]
 refine lw 6 (Pp g4 0) (r_fa25_0 g4 0 rfl rfl) ?_
 simp only [nz]
 have ho19 := (rd_one (Rs.row (hm15.row 3 rfl)))
 refine lst rfl (m_store 1 22 _ _ 0 (v11) (old := #[dv0, dv1, J (d.fuse), .bool (d.down)]) (new := #[v11, dv1, J (d.fuse), .bool (d.down)]) hm15 rfl rfl rfl rfl rfl (by rw [cells_one ho19]; exact sz_22) (by rw [cells_one ho19]; exact (show 0 + 1 ≤ 4 from by decide)) (one_all ho19) (by rw [cells_one ho19]; rfl) (fun w17 hm18 => ?_))
 refine wn (tj (hK8 _ _ (wk (fun K20 hK20 => ?_))))
 refine wp_mono (Q := fun e a' w' => e = Exit.normal ∧ ∃ (v28 : Value) (v25 : Value), a' = ⟨#[.agg #[dv0, dv1, J (d.fuse), .bool (d.down)], Pp g4 0, Pp g7 0, Pp g4 0, dv0, v11, Pp g4 0, Pp g4 1, dv1, J (d.loose.length : Int), J (((d.loose.length + 1) : Nat) : Int), v25, Pp g4 1, dv1, v28, Pp g4 1, undef], []⟩ ∧ Mm none (fun _ => True) w w' [.see (DkR d dv0 dv1) Fd, .blk g4 #[v11, v28, J (d.fuse), .bool (d.down)] 25, .blk g7 #[.slice none 0 0, .slice none 0 0, J 0, .bool false] 25, .row v11 (clone_m d.safe).length ((clone_m d.safe).flatMap eS) 9 1, .row v28 (([] : List Wr) ++ d.loose).length ((([] : List Wr) ++ d.loose).flatMap eWr) 51 2]) ?_ ?_
 ·have hm21 := hm18.drew
  refine wp_region_held_drew (S := fun w' => True) (by kernel_rfl) (trivial) (fun _ => ?_)
  generalize w17.drew = w22 at *
  refine tn 0 7 (Pp g4 1) rfl rfl (fun _ hw => r_fa25_1 g4 0 rfl rfl) (trivial) ?_
  simp only [nz]
  refine tn 5 12 (Pp g4 1) rfl rfl (fun _ hw => r_fa25_1 g4 0 rfl rfl) (trivial) ?_
  simp only [nz]
  refine two_ready 1 6 (by kernel_rfl) ?_ ?_
  ·refine opd rfl rfl (w_value 8 (dv1) rfl (r_load (hm21.at 1 rfl) rfl Tryd.underlying23 rfl rfl rfl) ⟨trivial, ?_⟩)
   simp only [nz]
   refine tn 2 9 (J (d.loose.length : Int)) rfl rfl (fun _ hw => s_len ((hm21.see 0 rfl).2) rfl Tryd.underlying23 rfl) (trivial) ?_
   simp only [nz]
   refine tn 3 10 (J (((d.loose.length + 1) : Nat) : Int)) rfl rfl (fun _ hw => r_add d.loose.length 1 (show (d.loose.length + 1) < 9223372036854775808 from by omega) rfl rfl rfl) (trivial) ?_
   simp only [nz]
   refine two_ready 4 6 (by kernel_rfl) ?_ ?_
   ·obtain ⟨iq, hiq, hz1, hz2, hz3⟩ := inf_51
    refine opd rfl rfl (m_make0 (α := Wr) (enc := eWr) (size := 2) (d.loose.length + 1) iq _ hm21 11 rfl rfl Tryd.underlying23 hiq hz1 hz2 hz3 rfl rfl (by omega) (by omega) (fun v25 w23 hm24 => ?_))
    refine ⟨trivial, ?_⟩
    simp only [nz]
    refine one_ready 6 (by kernel_rfl) ?_
    refine opd rfl rfl (w_value 13 (dv1) rfl (r_load (hm24.at 1 rfl) rfl Tryd.underlying23 rfl rfl rfl) ⟨trivial, ?_⟩)
    simp only [nz]
    refine one_ready 7 (by kernel_rfl) ?_
    obtain ⟨iq, hiq, hz1, hz2, hz3⟩ := inf_51
    refine opd rfl rfl (m_appendR 4 (l := ([] : List Wr)) (l2 := d.loose) iq _ _ _ (dv1) hm24 rfl 14 rfl rfl Tryd.underlying23 hiq hz1 hz2 hz3 eWr_len eWr_one rfl (by decide) rfl rfl (hm24.see 0 rfl).2 (by simp; omega) (by simp; omega) (fun v28 w26 hm27 => ?_))
    refine ⟨trivial, ?_⟩
    simp only [nz]
    refine tn 8 15 (Pp g4 1) rfl rfl (fun _ hw => r_fa25_1 g4 0 rfl rfl) (trivial) ?_
    simp only [nz]
    refine one_ready 9 (by kernel_rfl) ?_
    have ho31 := (rd_one (Rs.row (hm27.row 4 rfl)))
    refine opd rfl rfl (m_store 1 23 _ _ 1 (v28) (old := #[v11, dv1, J (d.fuse), .bool (d.down)]) (new := #[v11, v28, J (d.fuse), .bool (d.down)]) hm27 rfl rfl rfl rfl rfl (by rw [cells_one ho31]; exact sz_23) (by rw [cells_one ho31]; exact (show 1 + 1 ≤ 4 from by decide)) (one_all ho31) (by rw [cells_one ho31]; rfl) (fun w29 hm30 => ?_))
    refine ⟨trivial, ?_⟩
    refine wpAnyH_done (by kernel_rfl) ?_ _
    exact ⟨rfl, v28, v25, rfl, hm30⟩
   refine opd rfl rfl (w_value 13 (dv1) rfl (r_load (hm21.at 1 rfl) rfl Tryd.underlying23 rfl rfl rfl) ⟨trivial, ?_⟩)
   simp only [nz]
   refine one_ready 4 (by kernel_rfl) ?_
   obtain ⟨iq, hiq, hz1, hz2, hz3⟩ := inf_51
   refine opd rfl rfl (m_make0 (α := Wr) (enc := eWr) (size := 2) (d.loose.length + 1) iq _ hm21 11 rfl rfl Tryd.underlying23 hiq hz1 hz2 hz3 rfl rfl (by omega) (by omega) (fun v34 w32 hm33 => ?_))
   refine ⟨trivial, ?_⟩
   simp only [nz]
   refine one_ready 7 (by kernel_rfl) ?_
   obtain ⟨iq, hiq, hz1, hz2, hz3⟩ := inf_51
   refine opd rfl rfl (m_appendR 4 (l := ([] : List Wr)) (l2 := d.loose) iq _ _ _ (dv1) hm33 rfl 14 rfl rfl Tryd.underlying23 hiq hz1 hz2 hz3 eWr_len eWr_one rfl (by decide) rfl rfl (hm33.see 0 rfl).2 (by simp; omega) (by simp; omega) (fun v37 w35 hm36 => ?_))
   refine ⟨trivial, ?_⟩
   simp only [nz]
   refine tn 8 15 (Pp g4 1) rfl rfl (fun _ hw => r_fa25_1 g4 0 rfl rfl) (trivial) ?_
   simp only [nz]
   refine one_ready 9 (by kernel_rfl) ?_
   have ho40 := (rd_one (Rs.row (hm36.row 4 rfl)))
   refine opd rfl rfl (m_store 1 23 _ _ 1 (v37) (old := #[v11, dv1, J (d.fuse), .bool (d.down)]) (new := #[v11, v37, J (d.fuse), .bool (d.down)]) hm36 rfl rfl rfl rfl rfl (by rw [cells_one ho40]; exact sz_23) (by rw [cells_one ho40]; exact (show 1 + 1 ≤ 4 from by decide)) (one_all ho40) (by rw [cells_one ho40]; rfl) (fun w38 hm39 => ?_))
   refine ⟨trivial, ?_⟩
   refine wpAnyH_done (by kernel_rfl) ?_ _
   exact ⟨rfl, v37, v34, rfl, hm39⟩
  refine opd rfl rfl (w_value 13 (dv1) rfl (r_load (hm21.at 1 rfl) rfl Tryd.underlying23 rfl rfl rfl) ⟨trivial, ?_⟩)
  simp only [nz]
  refine one_ready 1 (by kernel_rfl) ?_
  refine opd rfl rfl (w_value 8 (dv1) rfl (r_load (hm21.at 1 rfl) rfl Tryd.underlying23 rfl rfl rfl) ⟨trivial, ?_⟩)
  simp only [nz]
  refine tn 2 9 (J (d.loose.length : Int)) rfl rfl (fun _ hw => s_len ((hm21.see 0 rfl).2) rfl Tryd.underlying23 rfl) (trivial) ?_
  simp only [nz]
  refine tn 3 10 (J (((d.loose.length + 1) : Nat) : Int)) rfl rfl (fun _ hw => r_add d.loose.length 1 (show (d.loose.length + 1) < 9223372036854775808 from by omega) rfl rfl rfl) (trivial) ?_
  simp only [nz]
  refine one_ready 4 (by kernel_rfl) ?_
  obtain ⟨iq, hiq, hz1, hz2, hz3⟩ := inf_51
  refine opd rfl rfl (m_make0 (α := Wr) (enc := eWr) (size := 2) (d.loose.length + 1) iq _ hm21 11 rfl rfl Tryd.underlying23 hiq hz1 hz2 hz3 rfl rfl (by omega) (by omega) (fun v43 w41 hm42 => ?_))
  refine ⟨trivial, ?_⟩
  simp only [nz]
  refine one_ready 7 (by kernel_rfl) ?_
  obtain ⟨iq, hiq, hz1, hz2, hz3⟩ := inf_51
  refine opd rfl rfl (m_appendR 4 (l := ([] : List Wr)) (l2 := d.loose) iq _ _ _ (dv1) hm42 rfl 14 rfl rfl Tryd.underlying23 hiq hz1 hz2 hz3 eWr_len eWr_one rfl (by decide) rfl rfl (hm42.see 0 rfl).2 (by simp; omega) (by simp; omega) (fun v46 w44 hm45 => ?_))
  refine ⟨trivial, ?_⟩
  simp only [nz]
  refine tn 8 15 (Pp g4 1) rfl rfl (fun _ hw => r_fa25_1 g4 0 rfl rfl) (trivial) ?_
  simp only [nz]
  refine one_ready 9 (by kernel_rfl) ?_
  have ho49 := (rd_one (Rs.row (hm45.row 4 rfl)))
  refine opd rfl rfl (m_store 1 23 _ _ 1 (v46) (old := #[v11, dv1, J (d.fuse), .bool (d.down)]) (new := #[v11, v46, J (d.fuse), .bool (d.down)]) hm45 rfl rfl rfl rfl rfl (by rw [cells_one ho49]; exact sz_23) (by rw [cells_one ho49]; exact (show 1 + 1 ≤ 4 from by decide)) (one_all ho49) (by rw [cells_one ho49]; rfl) (fun w47 hm48 => ?_))
  refine ⟨trivial, ?_⟩
  refine wpAnyH_done (by kernel_rfl) ?_ _
  exact ⟨rfl, v46, v43, rfl, hm48⟩
 clear hm18
 rintro _ _ w50 ⟨rfl, v28, v25, rfl, hm51⟩
 refine tj (hK20 _ _ (wk (fun K52 hK52 => (wq ?_))))
 refine lw 16 (.agg #[v11, v28, J (d.fuse), .bool (d.down)]) (r_whole (hm51.at 1 rfl) Tryd.underlying25 rfl (by exact sz_25) rfl rfl) ?_
 simp only [nz]
 have ho55 := (rd_one (Rs.row (hm51.row 3 rfl)))
 have ho56 := (rd_one (Rs.row (hm51.row 4 rfl)))
 refine lst rfl (m_store 2 25 _ _ 0 (.agg #[v11, v28, J (d.fuse), .bool (d.down)]) (old := #[.slice none 0 0, .slice none 0 0, J 0, .bool false]) (new := #[v11, v28, J (d.fuse), .bool (d.down)]) hm51 rfl rfl rfl rfl rfl (by exact sz_25) (show 0 + 4 ≤ 4 from by decide) a4 rfl (fun w53 hm54 => ?_))
 refine wn (tj (hK52 _ _ (wp_ret ?_)))
 have he57 : copied_m d = (Dk.mk (clone_m d.safe) (([] : List Wr) ++ d.loose) d.fuse d.down) := by unfold copied_m; rfl
 exact ⟨rfl, .agg #[v11, v28, J (d.fuse), .bool (d.down)], Mem.res_c rfl rfl (hm54.at 2 rfl) Tryd.underlying25 rfl (by exact sz_25), ⟨⟨_, rfl, v11, v28, (by rfl), by rw [he57]; exact ⟨hm54.gives 3 rfl, hm54.gives 4 rfl, (fun _ h => hm54.ne 3 4 _ _ _ rfl rfl (by decide) h)⟩⟩, hm54.below⟩⟩
theorem run_copied {o : Oper} {a : Act} {w : World} {x0 : Operand} {v0 : Value} (ho : o.op = .call { callee := .value (.func 94), args := #[x0], argTypes := #[25] }) (h0 : a.eval x0 = v0) :
  (execOp a.eval o).run Tryd.prog w = .ok (.enter 94 #[v0]) w := by
 unfold execOp
 simp only [ho]
 have hf : a.eval (.func 94) = .func (.func 94) #[] #[] := rfl
 generalize a.eval = f at *
 go_simp
theorem copied_eq (d : Dk) : copied_m d = d := by
 unfold copied_m clone_m
 rfl
def burn_m (d : Dk) : Dk × Int :=
 if (copied_m d).fuse = 0 then
  ((Dk.mk ((copied_m d).safe) ((copied_m d).loose) ((copied_m d).fuse) true), 11)
 else
  if 0 < (copied_m d).fuse then
   ((Dk.mk ((copied_m d).safe) ((copied_m d).loose) ((copied_m d).fuse - (1 : Int)) ((copied_m d).down)), 0)
  else
   ((copied_m d), 0)
theorem burn_any (d : Dk) (dv0 : Value) (dv1 : Value) (w : World) (hd : DkR d dv0 dv1 w) (hp0 : d.safe.length ≤ 8796093022208) (hp1 : d.loose.length ≤ 5864070000000) (hp2 : d.fuse ≤ 9223372036854775807) : Calls Tryd.prog 82 #[.agg #[dv0, dv1, J (d.fuse), .bool (d.down)]] w (fun e w' => (∃ v, e = .returned v ∧ ∃ o0 o1 : Value, v = .tuple #[.agg #[o0, o1, J (((burn_m d).1).fuse), .bool (((burn_m d).1).down)], J ((burn_m d).2)] ∧ w'.ownsRow w.heap.size 9 1 o0 (((burn_m d).1).safe).length ((((burn_m d).1).safe).flatMap eS) ∧ w'.ownsRow w.heap.size 51 2 o1 (((burn_m d).1).loose).length ((((burn_m d).1).loose).flatMap eWr) ∧ (∀ g, Value.ownBlock o0 = some g → Value.ownBlock o1 ≠ some g)) ∧ Below w.heap.size w w') := by
 go_enter Tryd.func82, Tryd.ntmps82
 have hm00 := Mm.nil none (fun _ => True) w
 obtain ⟨Fd, hm01⟩ : ∃ Fd, Mm none (fun _ => True) w w [.see (DkR d dv0 dv1) Fd] := hm00.come (DkR_all hd)
 have hm0 := hm01
 refine wk (fun K1 hK1 => (wq ?_))
 refine lst rfl (m_alloc (c := #[dv0, dv1, J (d.fuse), .bool (d.down)]) (T := 25) hm0 1 rfl (run_box rfl rfl) (fun g4 w2 hm3 => ?_))
 simp only [nz]
 refine lst rfl (m_alloc (c := #[.slice none 0 0, .slice none 0 0, J 0, .bool false]) (T := 25) hm3 2 rfl (by unfold execOp; go_simp; try rfl) (fun g7 w5 hm6 => ?_))
 simp only [nz]
 refine la 3 (J 0) ?_
 simp only [nz]
 refine wn (tj (hK1 _ _ (wk (fun K8 hK8 => (wq ?_)))))
 refine lw 4 (.agg #[dv0, dv1, J (d.fuse), .bool (d.down)]) (r_whole (hm6.at 1 rfl) Tryd.underlying25 rfl (by exact sz_25) rfl rfl) ?_
 simp only [nz]
 refine lst rfl (m_callx hm6 5 rfl (run_copied rfl rfl) (copied_any d dv0 dv1 _ (hm6.see 0 rfl) (by omega) (by omega)) (fun vv13 w9 hR14 hb15 hm10 => ?_))
 obtain ⟨v11, v12, rfl, ho17, ho18, hne19⟩ := hR14
 have hm16 : Mm none (fun _ => True) w w9 [.see (DkR d dv0 dv1) Fd, .blk g4 #[dv0, dv1, J (d.fuse), .bool (d.down)] 25, .blk g7 #[.slice none 0 0, .slice none 0 0, J 0, .bool false] 25, .row v11 ((copied_m d).safe).length (((copied_m d).safe).flatMap eS) 9 1, .row v12 ((copied_m d).loose).length (((copied_m d).loose).flatMap eWr) 51 2] := hm6.gained2 hb15 ho17 ho18 hne19
 clear hm10
 have hf20 : (copied_m d).fuse = d.fuse := congrArg Dk.fuse (copied_eq d)
 simp only [nz]
 have ho23 := (rd_one (Rs.row (hm16.row 3 rfl)))
 have ho24 := (rd_one (Rs.row (hm16.row 4 rfl)))
 refine lst rfl (m_store 1 25 _ _ 0 (.agg #[v11, v12, J ((copied_m d).fuse), .bool ((copied_m d).down)]) (old := #[dv0, dv1, J (d.fuse), .bool (d.down)]) (new := #[v11, v12, J ((copied_m d).fuse), .bool ((copied_m d).down)]) hm16 rfl rfl rfl rfl rfl (by exact sz_25) (show 0 + 4 ≤ 4 from by decide) a4 rfl (fun w21 hm22 => ?_))
 refine wn (tj (hK8 _ _ (wk (fun K25 hK25 => (wk (fun K26 hK26 => (wq ?_)))))))
 refine lw 6 (Pp g4 2) (r_fa25_2 g4 0 rfl rfl) ?_
 refine lw 7 (J ((copied_m d).fuse)) (r_load (hm22.at 1 rfl) rfl Tryd.underlying3 rfl rfl rfl) ?_
 refine lw 8 (.bool (decide ((copied_m d).fuse = 0))) (z_eql ((copied_m d).fuse) 0 rfl rfl rfl) ?_
 simp only [nz]
 refine wn (tj (hK26 _ _ ?_))
 refine cond_d ((copied_m d).fuse = 0) rfl (fun hc27 => ?_) (fun hc27 => ?_)
 ·refine wk (fun K28 hK28 => (wq ?_))
  refine lw 9 (Pp g4 3) (r_fa25_3 g4 0 rfl rfl) ?_
  simp only [nz]
  refine lst rfl (m_store 1 4 _ _ 3 (.bool true) (old := #[v11, v12, J ((copied_m d).fuse), .bool ((copied_m d).down)]) (new := #[v11, v12, J ((copied_m d).fuse), .bool true]) hm22 rfl rfl rfl rfl rfl (by exact sz_4) (show 3 + 1 ≤ 4 from by decide) (one_all rfl) rfl (fun w29 hm30 => ?_))
  refine wn (tj (hK28 _ _ (wk (fun K31 hK31 => (wq ?_)))))
  refine lw 10 (.agg #[v11, v12, J ((copied_m d).fuse), .bool true]) (r_whole (hm30.at 1 rfl) Tryd.underlying25 rfl (by exact sz_25) rfl rfl) ?_
  simp only [nz]
  have ho34 := (rd_one (Rs.row (hm30.row 3 rfl)))
  have ho35 := (rd_one (Rs.row (hm30.row 4 rfl)))
  refine lst rfl (m_store 2 25 _ _ 0 (.agg #[v11, v12, J ((copied_m d).fuse), .bool true]) (old := #[.slice none 0 0, .slice none 0 0, J 0, .bool false]) (new := #[v11, v12, J ((copied_m d).fuse), .bool true]) hm30 rfl rfl rfl rfl rfl (by exact sz_25) (show 0 + 4 ≤ 4 from by decide) a4 rfl (fun w32 hm33 => ?_))
  refine la 3 (J 11) ?_
  simp only [nz]
  refine wn (tj (hK31 _ _ (wp_ret (then_r ?_))))
  have he36 : burn_m d = ((Dk.mk ((copied_m d).safe) ((copied_m d).loose) ((copied_m d).fuse) true), 11) := by unfold burn_m; rw [if_pos hc27] <;> rfl
  exact ⟨rfl, .tuple #[.agg #[v11, v12, J ((copied_m d).fuse), .bool true], J 11], Mem.res_ct rfl rfl (hm33.at 2 rfl) Tryd.underlying25 rfl (by exact sz_25) rfl, ⟨⟨_, rfl, v11, v12, (by rw [he36]), by rw [he36]; exact ⟨hm33.gives 3 rfl, hm33.gives 4 rfl, (fun _ h => hm33.ne 3 4 _ _ _ rfl rfl (by decide) h)⟩⟩, hm33.below⟩⟩
 refine wp_skip (tj (hK25 _ _ (wk (fun K37 hK37 => (wk (fun K38 hK38 => (wq ?_)))))))
 refine lw 11 (Pp g4 2) (r_fa25_2 g4 0 rfl rfl) ?_
 refine lw 12 (J ((copied_m d).fuse)) (r_load (hm22.at 1 rfl) rfl Tryd.underlying3 rfl rfl rfl) ?_
 refine lw 13 (.bool (decide (0 < (copied_m d).fuse))) (z_gtr ((copied_m d).fuse) 0 rfl rfl rfl) ?_
 simp only [nz]
 refine wn (tj (hK38 _ _ ?_))
 refine cond_d (0 < (copied_m d).fuse) rfl (fun hc39 => ?_) (fun hc39 => ?_)
 rotate_left
 ·refine wp_skip (tj (hK37 _ _ (wk (fun K48 hK48 => (wq ?_)))))
  refine lw 18 (.agg #[v11, v12, J ((copied_m d).fuse), .bool ((copied_m d).down)]) (r_whole (hm22.at 1 rfl) Tryd.underlying25 rfl (by exact sz_25) rfl rfl) ?_
  simp only [nz]
  have ho51 := (rd_one (Rs.row (hm22.row 3 rfl)))
  have ho52 := (rd_one (Rs.row (hm22.row 4 rfl)))
  refine lst rfl (m_store 2 25 _ _ 0 (.agg #[v11, v12, J ((copied_m d).fuse), .bool ((copied_m d).down)]) (old := #[.slice none 0 0, .slice none 0 0, J 0, .bool false]) (new := #[v11, v12, J ((copied_m d).fuse), .bool ((copied_m d).down)]) hm22 rfl rfl rfl rfl rfl (by exact sz_25) (show 0 + 4 ≤ 4 from by decide) a4 rfl (fun w49 hm50 => ?_))
  refine la 3 (J 0) ?_
  simp only [nz]
  refine wn (tj (hK48 _ _ (wp_ret ?_)))
  have he53 : burn_m d = ((copied_m d), 0) := by unfold burn_m; rw [if_neg hc27, if_neg hc39] <;> rfl
  exact ⟨rfl, .tuple #[.agg #[v11, v12, J ((copied_m d).fuse), .bool ((copied_m d).down)], J 0], Mem.res_ct rfl rfl (hm50.at 2 rfl) Tryd.underlying25 rfl (by exact sz_25) rfl, ⟨⟨_, rfl, v11, v12, (by rw [he53]), by rw [he53]; exact ⟨hm50.gives 3 rfl, hm50.gives 4 rfl, (fun _ h => hm50.ne 3 4 _ _ _ rfl rfl (by decide) h)⟩⟩, hm50.below⟩⟩
 refine wq ?_
 refine lw 14 (Pp g4 2) (r_fa25_2 g4 0 rfl rfl) ?_
 refine lw 15 (J ((copied_m d).fuse)) (r_load (hm22.at 1 rfl) rfl Tryd.underlying3 rfl rfl rfl) ?_
 refine lw 16 (J (((copied_m d).fuse - (1 : Int)))) (z_sub ((copied_m d).fuse) (1 : Int) _ (by rw [IntKind.wrap_i64]; omega) rfl rfl rfl) ?_
 simp only [nz]
 refine lw 17 (Pp g4 2) (r_fa25_2 g4 0 rfl rfl) ?_
 simp only [nz]
 refine lst rfl (m_store 1 3 _ _ 2 (J (((copied_m d).fuse - (1 : Int)))) (old := #[v11, v12, J ((copied_m d).fuse), .bool ((copied_m d).down)]) (new := #[v11, v12, J (((copied_m d).fuse - (1 : Int))), .bool ((copied_m d).down)]) hm22 rfl rfl rfl rfl rfl (by exact sz_3) (show 2 + 1 ≤ 4 from by decide) (one_all rfl) rfl (fun w40 hm41 => ?_))
 refine wn (tj (hK37 _ _ (wk (fun K42 hK42 => (wq ?_)))))
 refine lw 18 (.agg #[v11, v12, J (((copied_m d).fuse - (1 : Int))), .bool ((copied_m d).down)]) (r_whole (hm41.at 1 rfl) Tryd.underlying25 rfl (by exact sz_25) rfl rfl) ?_
 simp only [nz]
 have ho45 := (rd_one (Rs.row (hm41.row 3 rfl)))
 have ho46 := (rd_one (Rs.row (hm41.row 4 rfl)))
 refine lst rfl (m_store 2 25 _ _ 0 (.agg #[v11, v12, J (((copied_m d).fuse - (1 : Int))), .bool ((copied_m d).down)]) (old := #[.slice none 0 0, .slice none 0 0, J 0, .bool false]) (new := #[v11, v12, J (((copied_m d).fuse - (1 : Int))), .bool ((copied_m d).down)]) hm41 rfl rfl rfl rfl rfl (by exact sz_25) (show 0 + 4 ≤ 4 from by decide) a4 rfl (fun w43 hm44 => ?_))
 refine la 3 (J 0) ?_
 simp only [nz]
 refine wn (tj (hK42 _ _ (wp_ret ?_)))
 have he47 : burn_m d = ((Dk.mk ((copied_m d).safe) ((copied_m d).loose) ((copied_m d).fuse - (1 : Int)) ((copied_m d).down)), 0) := by unfold burn_m; rw [if_neg hc27, if_pos hc39] <;> rfl
 exact ⟨rfl, .tuple #[.agg #[v11, v12, J (((copied_m d).fuse - (1 : Int))), .bool ((copied_m d).down)], J 0], Mem.res_ct rfl rfl (hm44.at 2 rfl) Tryd.underlying25 rfl (by exact sz_25) rfl, ⟨⟨_, rfl, v11, v12, (by rw [he47]), by rw [he47]; exact ⟨hm44.gives 3 rfl, hm44.gives 4 rfl, (fun _ h => hm44.ne 3 4 _ _ _ rfl rfl (by decide) h)⟩⟩, hm44.below⟩⟩
theorem run_burn {o : Oper} {a : Act} {w : World} {x0 : Operand} {v0 : Value} (ho : o.op = .call { callee := .value (.func 82), args := #[x0], argTypes := #[25] }) (h0 : a.eval x0 = v0) :
  (execOp a.eval o).run Tryd.prog w = .ok (.enter 82 #[v0]) w := by
 unfold execOp
 simp only [ho]
 have hf : a.eval (.func 82) = .func (.func 82) #[] #[] := rfl
 generalize a.eval = f at *
 go_simp
end Go.Proofs.YtnmaaijeamlplaaDoor.Bk
