import Derived.Test.YtnmaaijeamlplaaDoorReC
set_option linter.unusedVariables false
set_option linter.unusedSimpArgs false
namespace Go.Proofs.YtnmaaijeamlplaaDoor.Bk
open Go.Proofs.YtnmaaijeamlplaaDoor.Mem
theorem getd_drop {α : Type} (d : α) (l : List α) (i : Nat) (h : i < l.length) : l.drop i = l.getD i d :: l.drop (i + 1) := by
 rw [List.drop_eq_getElem_cons h, List.getD_eq_getElem?_getD, List.getElem?_eq_getElem h]
 rfl
def puts (d : Dk) (at_ : Int) : List (List UInt8) → Dk × Int
 | [] => (d, 0)
 | s :: l => if (put_m d at_ s).2 = 0 then puts (put_m d at_ s).1 (at_ + 1) l else put_m d at_ s
theorem putall_l (d : Dk) (at_ : Int) (l : List (List UInt8)) (a : List (List UInt8)) (b : List Wr) (f : Nat) (g : Bool) : ∀ k i s lo fu dn, l.length ≤ i + k → i ≤ l.length →
  fin (putall_m_l0 d at_ l (k + 1) (i, s, lo, fu, dn, a, b, f, g)) (fun r => r) (fun zz => putall_m_k0 d at_ l zz.1 zz.2.1 zz.2.2.1 zz.2.2.2.1 zz.2.2.2.2.1 zz.2.2.2.2.2.1 zz.2.2.2.2.2.2.1 zz.2.2.2.2.2.2.2.1 zz.2.2.2.2.2.2.2.2) = puts ⟨s, lo, fu, dn⟩ (at_ + (i : Int)) (l.drop i)
 | k, i, s, lo, fu, dn, h, hi => by
  have E : putall_m_l0 d at_ l (k + 1) (i, s, lo, fu, dn, a, b, f, g) = putall_m_b0 d at_ l (putall_m_l0 d at_ l k) i s lo fu dn a b f g := rfl
  rw [E]
  unfold putall_m_b0
  by_cases h1 : i < l.length
  ·rw [if_pos h1, getd_drop [] l i h1]
   show _ = (if (put_m ⟨s, lo, fu, dn⟩ (at_ + (i : Int)) (l.getD i [])).2 = 0 then puts (put_m ⟨s, lo, fu, dn⟩ (at_ + (i : Int)) (l.getD i [])).1 (at_ + (i : Int) + 1) (l.drop (i + 1)) else put_m ⟨s, lo, fu, dn⟩ (at_ + (i : Int)) (l.getD i []))
   by_cases h2 : (put_m ⟨s, lo, fu, dn⟩ (at_ + (i : Int)) (l.getD i [])).2 = 0
   ·rw [if_neg (fun c => c h2), if_pos h2]
    match k, h with
    | 0, h => omega
    | k + 1, h =>
     have ih := putall_l d at_ l a b f g k (i + 1) (put_m ⟨s, lo, fu, dn⟩ (at_ + (i : Int)) (l.getD i [])).1.safe (put_m ⟨s, lo, fu, dn⟩ (at_ + (i : Int)) (l.getD i [])).1.loose (put_m ⟨s, lo, fu, dn⟩ (at_ + (i : Int)) (l.getD i [])).1.fuse (put_m ⟨s, lo, fu, dn⟩ (at_ + (i : Int)) (l.getD i [])).1.down (by omega) (by omega)
     rw [ih, show at_ + (i : Int) + 1 = at_ + ((i + 1 : Nat) : Int) by omega]
   rw [if_pos h2, if_neg h2]
   rfl
  rw [if_neg h1, List.drop_eq_nil_of_le (by omega)]
  rfl
theorem putall_is (d : Dk) (at_ : Int) (l : List (List UInt8)) : putall_m d at_ l = puts d at_ l := by
 have := putall_l d at_ l [] [] 0 false (l.length - 0) 0 d.safe d.loose d.fuse d.down (by omega) (Nat.zero_le _)
 rw [List.drop_zero, show at_ + ((0 : Nat) : Int) = at_ by omega] at this
 exact this
theorem puts_near : ∀ (l : List (List UInt8)) (d : Dk) (at_ : Int), near d (puts d at_ l).1 l.length
 | [], d, at_ => ⟨rfl, by simp [puts], id⟩
 | s :: l, d, at_ => by
  have h1 := put_near d at_ s
  unfold puts
  by_cases h2 : (put_m d at_ s).2 = 0
  ·rw [if_pos h2]
   have h3 := puts_near l (put_m d at_ s).1 (at_ + 1)
   exact ⟨h3.1.trans h1.1, by have a := h3.2.1; have b := h1.2.1; rw [List.length_cons]; omega, fun h => h3.2.2 (h1.2.2 h)⟩
  rw [if_neg h2]
  exact ⟨h1.1, by have b := h1.2.1; rw [List.length_cons]; omega, h1.2.2⟩
theorem putall_near (d : Dk) (at_ : Int) (l : List (List UInt8)) : near d (putall_m d at_ l).1 l.length := by rw [putall_is]; exact puts_near l d at_
end Go.Proofs.YtnmaaijeamlplaaDoor.Bk
namespace Go.Proofs.YtnmaaijeamlplaaDoor.Bk
open Go.RowKit
open Go.Proofs.YtnmaaijeamlplaaDoor.Sym Go.Proofs.YtnmaaijeamlplaaDoor.Mem
open Go.Proofs.YtnmaaijeamlplaaDoor.Sx hiding Mm m_alloc m_store m_call m_callx
attribute [local irreducible] right_m rright_m ready_m rready_m copied_m burn_m put_m get_m flush_m spent_m rput_m rget_m rflush_m blank_m rnew_m same_m
attribute [local irreducible] number_m value_m fill_m beginning_m log_m fits_m lists_m epoch_m
attribute [local irreducible] home_m putall_m
attribute [local irreducible] wpList Oper.wp
def putfl_m (d : Dk) (at_ : Int) (l : List (List UInt8)) : Dk × Int :=
 if ¬ (putall_m d at_ l).2 = 0 then
  (((putall_m d at_ l).1), (putall_m d at_ l).2)
 else
  (((flush_m ((putall_m d at_ l).1)).1), (flush_m ((putall_m d at_ l).1)).2)
set_option maxHeartbeats 4000000 in
set_option maxRecDepth 100000 in
theorem putfl_any (d : Dk) (at_ : Int) (l : List (List UInt8)) (dv0 : Value) (dv1 : Value) (lv0 : Value) (S : Nat → Prop) (w : World) (hd : From S (DkR d dv0 dv1) w) (hl : From S (Rs eS 1 l lv0) w) (hp0 : d.safe.length ≤ 8796093021952) (hp1 : d.loose.length ≤ 5864065000000) (hp2 : d.fuse ≤ 9223372036854775807) (hp3 : l.length ≤ 100000) (hp4 : -1000000 ≤ at_) (hp5 : at_ ≤ 1000000) : Calls Tryd.prog 41 #[.agg #[dv0, dv1, J (d.fuse), .bool (d.down)], J (at_), lv0] w (fun e w' => (∃ v, e = .returned v ∧ ∃ (o0 : Value) (o1 : Value), v = .tuple #[.agg #[o0, o1, J (((putfl_m d at_ l).1).fuse), .bool (((putfl_m d at_ l).1).down)], J ((putfl_m d at_ l).2)] ∧ Gives w w' S (DkR ((putfl_m d at_ l).1) o0 o1)) ∧ Below w.heap.size w w') := by
 go_enter Tryd.func41, Tryd.ntmps41
 have hm00 := Mm.nil none S w
 obtain ⟨Fd, hm01⟩ := hm00.come hd
 obtain ⟨Fl, hm02⟩ := hm01.come hl
 have hm0 := hm02
 refine wk (fun K1 hK1 => (wq ?_))
 refine lst rfl (m_alloc (c := #[dv0, dv1, J (d.fuse), .bool (d.down)]) (T := 25) hm0 3 rfl (run_box rfl rfl) (fun g4 w2 hm3 => ?_))
 simp only [nz]
 refine lst rfl (m_alloc (c := #[.slice none 0 0, .slice none 0 0, J 0, .bool false]) (T := 25) hm3 6 rfl (by unfold execOp; go_simp; try rfl) (fun g7 w5 hm6 => ?_))
 simp only [nz]
 refine la 7 (J 0) ?_
 simp only [nz]
 refine wn (tj (hK1 _ _ (wk (fun K8 hK8 => (wq ?_)))))
 refine lw 10 (.agg #[dv0, dv1, J (d.fuse), .bool (d.down)]) (r_whole (hm6.at 2 rfl) Tryd.underlying25 rfl (by exact sz_25) rfl rfl) ?_
 refine lm 11 (J (at_)) ?_
 refine lm 12 (lv0) ?_
 simp only [nz]
 refine lst rfl (m_callx hm6 13 rfl (run_putall rfl rfl rfl rfl) (putall_any d at_ l dv0 dv1 lv0 (seeS _) _ (hm6.from 0 rfl) (hm6.from 1 rfl) (by omega) (by omega) (by omega) (by omega) (by omega) (by omega)) (fun vv15 w9 hR16 hb17 hm10 => ?_))
 obtain ⟨v11, v12, rfl, hg18⟩ := hR16
 obtain ⟨F14, hm19⟩ : ∃ F14, Mm none S w w9 [.see (DkR d dv0 dv1) Fd, .see (Rs eS 1 l lv0) Fl, .blk g4 #[dv0, dv1, J (d.fuse), .bool (d.down)] 25, .blk g7 #[.slice none 0 0, .slice none 0 0, J 0, .bool false] 25, .see (DkR ((putall_m d at_ l).1) v11 v12) F14] := Mm.tookS hm6 hb17 hg18
 clear hm10 hg18 hb17
 have hf20 : (putall_m d at_ l).1.safe.length = d.safe.length := (putall_near d at_ l).1
 have hf21 : (putall_m d at_ l).1.loose.length ≤ d.loose.length + (l : List (List UInt8)).length := (putall_near d at_ l).2.1
 have hf22 : (putall_m d at_ l).1.fuse ≤ 9223372036854775807 := (putall_near d at_ l).2.2 (show d.fuse ≤ 9223372036854775807 from (by omega))
 simp only [nz]
 refine lm 9 (.tuple #[.agg #[v11, v12, J (((putall_m d at_ l).1).fuse), .bool (((putall_m d at_ l).1).down)], J ((putall_m d at_ l).2)]) ?_
 refine lw 14 (.agg #[v11, v12, J (((putall_m d at_ l).1).fuse), .bool (((putall_m d at_ l).1).down)]) (run_ex rfl rfl rfl) ?_
 refine lw 15 (J ((putall_m d at_ l).2)) (run_ex rfl rfl rfl) ?_
 simp only [nz]
 have ho25 := (rd_one ((hm19.see 4 rfl).1))
 have ho26 := (rd_one ((hm19.see 4 rfl).2))
 refine lst rfl (m_store 2 25 _ _ 0 (.agg #[v11, v12, J (((putall_m d at_ l).1).fuse), .bool (((putall_m d at_ l).1).down)]) (old := #[dv0, dv1, J (d.fuse), .bool (d.down)]) (new := #[v11, v12, J (((putall_m d at_ l).1).fuse), .bool (((putall_m d at_ l).1).down)]) hm19 rfl rfl rfl rfl rfl (by exact sz_25) (show 0 + 4 ≤ 4 from by decide) a4 rfl (fun w23 hm24 => ?_))
 refine la 8 (J ((putall_m d at_ l).2)) ?_
 simp only [nz]
 refine wn (tj (hK8 _ _ (wk (fun K27 hK27 => (wk (fun K28 hK28 => (wq ?_)))))))
 refine lm 16 (J ((putall_m d at_ l).2)) ?_
 refine lw 17 (.bool (decide (¬ (putall_m d at_ l).2 = 0))) (z_neq ((putall_m d at_ l).2) 0 rfl rfl rfl) ?_
 simp only [nz]
 refine wn (tj (hK28 _ _ ?_))
 refine cond_d (¬ (putall_m d at_ l).2 = 0) rfl (fun hc29 => ?_) (fun hc29 => ?_)
 ·refine wk (fun K30 hK30 => (wq ?_))
  refine lw 18 (.agg #[v11, v12, J (((putall_m d at_ l).1).fuse), .bool (((putall_m d at_ l).1).down)]) (r_whole (hm24.at 2 rfl) Tryd.underlying25 rfl (by exact sz_25) rfl rfl) ?_
  refine lm 19 (J ((putall_m d at_ l).2)) ?_
  simp only [nz]
  have ho33 := (rd_one ((hm24.see 4 rfl).1))
  have ho34 := (rd_one ((hm24.see 4 rfl).2))
  refine lst rfl (m_store 3 25 _ _ 0 (.agg #[v11, v12, J (((putall_m d at_ l).1).fuse), .bool (((putall_m d at_ l).1).down)]) (old := #[.slice none 0 0, .slice none 0 0, J 0, .bool false]) (new := #[v11, v12, J (((putall_m d at_ l).1).fuse), .bool (((putall_m d at_ l).1).down)]) hm24 rfl rfl rfl rfl rfl (by exact sz_25) (show 0 + 4 ≤ 4 from by decide) a4 rfl (fun w31 hm32 => ?_))
  refine la 7 (J ((putall_m d at_ l).2)) ?_
  simp only [nz]
  refine wn (tj (hK30 _ _ (wp_ret (then_r ?_))))
  have he35 : putfl_m d at_ l = (((putall_m d at_ l).1), (putall_m d at_ l).2) := by unfold putfl_m; rw [if_pos hc29] <;> rfl
  exact ⟨rfl, .tuple #[.agg #[v11, v12, J (((putall_m d at_ l).1).fuse), .bool (((putall_m d at_ l).1).down)], J ((putall_m d at_ l).2)], Mem.res_ct rfl rfl (hm32.at 3 rfl) Tryd.underlying25 rfl (by exact sz_25) rfl, ⟨⟨_, rfl, v11, v12, (by rw [he35]), by rw [he35]; exact hm32.give (hm32.from 4 rfl)⟩, hm32.below⟩⟩
 refine wp_skip (tj (hK27 _ _ (wk (fun K36 hK36 => (wq ?_)))))
 refine lw 20 (.agg #[v11, v12, J (((putall_m d at_ l).1).fuse), .bool (((putall_m d at_ l).1).down)]) (r_whole (hm24.at 2 rfl) Tryd.underlying25 rfl (by exact sz_25) rfl rfl) ?_
 simp only [nz]
 refine lst rfl (m_callx hm24 21 rfl (run_flush rfl rfl) (flush_any ((putall_m d at_ l).1) v11 v12 (seeS _) _ (hm24.from 4 rfl) (by omega) (by omega) (by omega)) (fun vv43 w37 hR44 hb45 hm38 => ?_))
 obtain ⟨v39, v40, rfl, hg46⟩ := hR44
 obtain ⟨F42, hm47⟩ : ∃ F42, Mm none S w w37 [.see (DkR d dv0 dv1) Fd, .see (Rs eS 1 l lv0) Fl, .blk g4 #[v11, v12, J (((putall_m d at_ l).1).fuse), .bool (((putall_m d at_ l).1).down)] 25, .blk g7 #[.slice none 0 0, .slice none 0 0, J 0, .bool false] 25, .see (DkR ((putall_m d at_ l).1) v11 v12) F14, .see (DkR ((flush_m ((putall_m d at_ l).1)).1) v39 v40) F42] := Mm.tookS hm24 hb45 hg46
 clear hm38 hg46 hb45
 have hf48 : (flush_m ((putall_m d at_ l).1)).1.safe.length = ((putall_m d at_ l).1).safe.length := (flush_near ((putall_m d at_ l).1)).1
 have hf49 : (flush_m ((putall_m d at_ l).1)).1.loose.length ≤ ((putall_m d at_ l).1).loose.length + 0 := (flush_near ((putall_m d at_ l).1)).2.1
 have hf50 : (flush_m ((putall_m d at_ l).1)).1.fuse ≤ 9223372036854775807 := (flush_near ((putall_m d at_ l).1)).2.2 (show ((putall_m d at_ l).1).fuse ≤ 9223372036854775807 from (by omega))
 simp only [nz]
 refine lw 22 (.agg #[v39, v40, J (((flush_m ((putall_m d at_ l).1)).1).fuse), .bool (((flush_m ((putall_m d at_ l).1)).1).down)]) (run_ex rfl rfl rfl) ?_
 refine lw 23 (J ((flush_m ((putall_m d at_ l).1)).2)) (run_ex rfl rfl rfl) ?_
 simp only [nz]
 have ho53 := (rd_one ((hm47.see 5 rfl).1))
 have ho54 := (rd_one ((hm47.see 5 rfl).2))
 refine lst rfl (m_store 3 25 _ _ 0 (.agg #[v39, v40, J (((flush_m ((putall_m d at_ l).1)).1).fuse), .bool (((flush_m ((putall_m d at_ l).1)).1).down)]) (old := #[.slice none 0 0, .slice none 0 0, J 0, .bool false]) (new := #[v39, v40, J (((flush_m ((putall_m d at_ l).1)).1).fuse), .bool (((flush_m ((putall_m d at_ l).1)).1).down)]) hm47 rfl rfl rfl rfl rfl (by exact sz_25) (show 0 + 4 ≤ 4 from by decide) a4 rfl (fun w51 hm52 => ?_))
 refine la 7 (J ((flush_m ((putall_m d at_ l).1)).2)) ?_
 simp only [nz]
 refine wn (tj (hK36 _ _ (wp_ret ?_)))
 have he55 : putfl_m d at_ l = (((flush_m ((putall_m d at_ l).1)).1), (flush_m ((putall_m d at_ l).1)).2) := by unfold putfl_m; rw [if_neg hc29] <;> rfl
 exact ⟨rfl, .tuple #[.agg #[v39, v40, J (((flush_m ((putall_m d at_ l).1)).1).fuse), .bool (((flush_m ((putall_m d at_ l).1)).1).down)], J ((flush_m ((putall_m d at_ l).1)).2)], Mem.res_ct rfl rfl (hm52.at 3 rfl) Tryd.underlying25 rfl (by exact sz_25) rfl, ⟨⟨_, rfl, v39, v40, (by rw [he55]), by rw [he55]; exact hm52.give (hm52.from 5 rfl)⟩, hm52.below⟩⟩
theorem run_putfl {o : Oper} {a : Act} {w : World} {x0 x1 x2 : Operand} {v0 v1 v2 : Value} (ho : o.op = .call { callee := .value (.func 41), args := #[x0, x1, x2], argTypes := #[25, 3, 22] }) (h0 : a.eval x0 = v0) (h1 : a.eval x1 = v1) (h2 : a.eval x2 = v2) :
  (execOp a.eval o).run Tryd.prog w = .ok (.enter 41 #[v0, v1, v2]) w := by
 unfold execOp
 simp only [ho]
 have hf : a.eval (.func 41) = .func (.func 41) #[] #[] := rfl
 generalize a.eval = f at *
 go_simp
end Go.Proofs.YtnmaaijeamlplaaDoor.Bk
