/- Layer 7: paths. -/
import Derived.Test.YtdohmmdfenafnaaDoorPaA
namespace Go.Proofs.YtdohmmdfenafnaaDoor.Pa
open Go.RowKit
open Go.Proofs.YtdohmmdfenafnaaDoor.Sym Go.Proofs.YtdohmmdfenafnaaDoor.Mem
open Go.Proofs.YtdohmmdfenafnaaDoor.Sx hiding Mm m_alloc m_store m_put m_call m_callx m_make m_append r_string r_ixS
set_option linter.unusedVariables false
attribute [local irreducible] wpList Oper.wp

def parts_m_b0 (s : List UInt8) (rec : Nat → Sum (Nat) ((List (List UInt8)) × Int)) (x19 : Nat) : Sum (Nat) ((List (List UInt8)) × Int) :=
  if x19 < (split_m s ([47])).length then
    if (!(part_m ((split_m s ([47])).getD x19 []))) = true then
      .inr (([] : List (List UInt8)), 4)
    else
      rec (x19 + 1)
  else
    .inl x19
def parts_m_l0 (s : List UInt8) : Nat → Nat → Sum (Nat) ((List (List UInt8)) × Int)
  | 0, zz => .inl zz
  | nq + 1, zz => parts_m_b0 s (parts_m_l0 s nq) zz

def parts_m_k0 (s : List UInt8) (y23 : Nat) : (List (List UInt8)) × Int :=
  if 16 < (split_m s ([47])).length then
    (([] : List (List UInt8)), 3)
  else
    ((split_m s ([47])), 0)

def parts_m (s : List UInt8) : (List (List UInt8)) × Int :=
  if 200 < s.length then
    (([] : List (List UInt8)), 3)
  else
    fin (parts_m_l0 s (((split_m s ([47])).length - 0) + 1) 0) (fun r => r) (fun zz => parts_m_k0 s zz)

set_option maxHeartbeats 4000000 in
set_option maxRecDepth 100000 in
theorem parts_any (s : List UInt8) (S : Nat → Prop) (w : World)  (hT : Laid w)  : Calls Tryd.prog 15 #[.string (tx s)] w (fun e w' => (∃ v, e = .returned v ∧ ∃ o0 : Value, v = .tuple #[o0, .int .i64 ((parts_m s).2)] ∧ Gives w w' S (Rs eS 1 ((parts_m s).1) o0)) ∧ Below w.heap.size w w') := by
  go_enter Tryd.func15, Tryd.ntmps15
  have hm00 := Mm.nil none S w
  have hm0 := hm00
  refine wp_seq_k (fun K1 hK1 => ?_)
  refine wp_region_lit ?_
  refine lvw 2 (.slice none 0 0) rfl rfl (run_as rfl rfl) ?_
  simp only [nz1, nz2, nz3]
  refine lvw 3 (.int .i64 0) rfl rfl (run_as rfl rfl) ?_
  simp only [nz1, nz2, nz3]
  refine wpList_nil ?_
  refine then_n (hK1 _ _ ?_)
  refine wp_seq_k (fun K2 hK2 => ?_)
  refine wp_seq_k (fun K3 hK3 => ?_)
  refine wp_region_lit ?_
  refine lvw 7 (.string (tx s)) rfl rfl (run_mv rfl rfl) ?_
  simp only [nz1, nz2, nz3]
  refine lvw 8 (.int .i64 ((s.length : Nat) : Int)) rfl rfl (t_len rfl Tryd.underlying9 rfl) ?_
  simp only [nz1, nz2, nz3]
  refine lvw 9 (.bool (decide (200 < s.length))) rfl rfl (r_gtr s.length 200 rfl rfl rfl) ?_
  simp only [nz1, nz2, nz3]
  refine wpList_nil ?_
  refine then_n (hK3 _ _ ?_)
  refine cond_d (200 < s.length) rfl (fun hc4 => ?_) (fun hc4 => ?_)
  · refine wp_seq_k (fun K5 hK5 => ?_)
    refine wp_region_lit ?_
    refine lvw 2 (.slice none 0 0) rfl rfl (run_as rfl rfl) ?_
    simp only [nz1, nz2, nz3]
    refine lvw 3 (.int .i64 3) rfl rfl (run_as rfl rfl) ?_
    simp only [nz1, nz2, nz3]
    refine wpList_nil ?_
    refine then_n (hK5 _ _ ?_)
    refine wp_ret ?_
    refine then_r ?_
    have he6 : parts_m s = (([] : List (List UInt8)), 3) := (show parts_m s = (([] : List (List UInt8)), 3) from by unfold parts_m; rw [if_pos hc4] <;> rfl)
    exact ⟨rfl, .tuple #[.slice none 0 0, .int .i64 3], res_tt rfl rfl rfl, ⟨⟨_, rfl, (.slice none 0 0), (by first | rfl | rw [he6]), by rw [he6]; exact hm0.give (From.pure (fun W => Rs.nil eS 1 W))⟩, hm0.below⟩⟩
  refine wp_skip ?_
  refine then_n (hK2 _ _ ?_)
  refine wp_seq_k (fun K7 hK7 => ?_)
  refine wp_region_lit ?_
  refine lvw 10 (.string (tx s)) rfl rfl (run_mv rfl rfl) ?_
  simp only [nz1, nz2, nz3]
  refine lst rfl (m_callx hm0 11 rfl (run_split rfl rfl rfl) (split_any s ([47])  _  (Laid.below hT hm0.below) (by first | omega | assumption | decide | (simp; done) | (simp; omega)) (by first | omega | assumption | decide | (simp; done) | (simp; omega))) (fun v10 w8 hR12 hb13 hm9 => ?_))
  obtain ⟨_, rfl, ho15⟩ := hR12
  have hm14 : Mm none S w w8 [.row v10 (split_m s ([47])).length ((split_m s ([47])).flatMap eS) 9 1] := hm0.gained hb13 ho15
  clear hm9
  have hf16 : (split_m s ([47])).length ≤ s.length + 1 := split_len s ([47]) (by decide)
  simp only [nz1, nz2, nz3]
  refine lvw 4 (v10) rfl rfl (run_as rfl rfl) ?_
  simp only [nz1, nz2, nz3]
  refine wpList_nil ?_
  refine then_n (hK7 _ _ ?_)
  refine wp_seq_k (fun K17 hK17 => ?_)
  refine wp_seq_k (fun K18 hK18 => ?_)
  refine wp_region_lit ?_
  refine lvw 12 (v10) rfl rfl (run_mv rfl rfl) ?_
  simp only [nz1, nz2, nz3]
  refine lvw 13 (.int .i64 (((split_m s ([47])).length : Nat) : Int)) rfl rfl (s_len (Rs.row (hm14.row 0 rfl)) rfl Tryd.underlying22 rfl) ?_
  simp only [nz1, nz2, nz3]
  refine lvw 14 (.int .i64 0) rfl rfl (run_mv rfl rfl) ?_
  simp only [nz1, nz2, nz3]
  refine wpList_nil ?_
  refine then_n (hK18 _ _ ?_)
  refine wp_cutK (fun a' w' => ∃ (y23 : Nat) (yu0 : Nat → Value), parts_m_l0 s (((split_m s ([47])).length - 0) + 1) 0 = .inl y23 ∧ a' = ⟨#[.string (tx s), undef, yu0 0, yu0 1, v10, undef, yu0 2, .string (tx s), .int .i64 ((s.length : Nat) : Int), .bool (decide (200 < s.length)), .string (tx s), v10, v10, .int .i64 (((split_m s ([47])).length : Nat) : Int), .int .i64 ((y23 : Nat) : Int), yu0 3, yu0 4, yu0 5, yu0 6, yu0 7, yu0 8, yu0 9, undef, undef, undef, undef], []⟩ ∧ Mm none S w w' [.row v10 (split_m s ([47])).length ((split_m s ([47])).flatMap eS) 9 1]) ?_ ?_
  · refine wp_block ?_
    refine wp_loop_n (fun n' a' w' => ∃ (n20 : Nat) (x19 : Nat) (u0 : Nat → Value), n' = n20 ∧ ((split_m s ([47])).length - x19) < n20 ∧ parts_m_l0 s (((split_m s ([47])).length - 0) + 1) 0 = parts_m_l0 s n20 x19 ∧ a' = ⟨#[.string (tx s), undef, u0 0, u0 1, v10, undef, u0 2, .string (tx s), .int .i64 ((s.length : Nat) : Int), .bool (decide (200 < s.length)), .string (tx s), v10, v10, .int .i64 (((split_m s ([47])).length : Nat) : Int), .int .i64 ((x19 : Nat) : Int), u0 3, u0 4, u0 5, u0 6, u0 7, u0 8, u0 9, undef, undef, undef, undef], []⟩ ∧ Mm none S w w' [.row v10 (split_m s ([47])).length ((split_m s ([47])).flatMap eS) 9 1]) ⟨(((split_m s ([47])).length - 0) + 1), 0, (fun qq => List.getD [.slice none 0 0, .int .i64 0, undef, undef, undef, undef, undef, undef, undef, undef] qq undef), rfl, Nat.lt_succ_self _, rfl, rfl, hm14⟩ ?_
    rintro n20 _ w25 ⟨_, x19, u0, rfl, hl29, hi22, rfl, hm26⟩ R27 hR27
    obtain ⟨k21, rfl⟩ : ∃ k, n20 = k + 1 := ⟨n20 - 1, by omega⟩
    refine wp_seq_k (fun K30 hK30 => ?_)
    refine wp_region_lit ?_
    refine lvw 15 (.bool (decide (x19 < (split_m s ([47])).length))) rfl rfl (r_lss x19 ((split_m s ([47])).length) rfl rfl rfl) ?_
    simp only [nz1, nz2, nz3]
    refine wpList_nil ?_
    refine then_n (hK30 _ _ ?_)
    refine wp_seq_k (fun K31 hK31 => ?_)
    refine cond_d (x19 < (split_m s ([47])).length) rfl (fun hc32 => ?_) (fun hc32 => ?_)
    rotate_left
    · refine wp_exit ?_
      refine then_x ?_
      refine then_x ?_
      refine blk_x ?_
      refine then_n ?_
      exact ⟨x19, (fun qq => List.getD [u0 0, u0 1, u0 2, .bool (decide (x19 < (split_m s ([47])).length)), u0 4, u0 5, u0 6, u0 7, u0 8, u0 9] qq undef), (hi22.trans (show parts_m_b0 s (parts_m_l0 s k21) x19 = .inl x19 from by unfold parts_m_b0; rw [if_neg hc32] <;> rfl)), rfl, hm26⟩
    refine wp_skip ?_
    refine then_n (hK31 _ _ ?_)
    refine wp_seq_k (fun K33 hK33 => ?_)
    refine wp_block ?_
    refine wp_seq_k (fun K34 hK34 => ?_)
    refine wp_region_lit ?_
    refine lvw 16 (.pointer (some ⟨(bk v10), (po v10 + x19 * 1), none⟩)) rfl rfl (r_ixv (Rs.row (hm26.row 0 rfl)) x19 (by omega) Tryd.underlying22 sz_9 rfl rfl rfl) ?_
    simp only [nz1, nz2, nz3]
    refine lvw 17 (.string (tx ((split_m s ([47])).getD x19 []))) rfl rfl (r_cellw (Rs.cell (Rs.row (hm26.row 0 rfl)) eS_len [] x19 (by omega) 0 _ rfl) Tryd.underlying9 rfl rfl rfl) ?_
    simp only [nz1, nz2, nz3]
    refine lvw 6 (.string (tx ((split_m s ([47])).getD x19 []))) rfl rfl (run_as rfl rfl) ?_
    simp only [nz1, nz2, nz3]
    refine wpList_nil ?_
    refine then_n (hK34 _ _ ?_)
    refine wp_seq_k (fun K35 hK35 => ?_)
    refine wp_region_lit ?_
    refine lvw 18 (.string (tx ((split_m s ([47])).getD x19 []))) rfl rfl (run_mv rfl rfl) ?_
    simp only [nz1, nz2, nz3]
    refine lst rfl (m_call hm26 19 (.bool ((part_m ((split_m s ([47])).getD x19 [])))) rfl (run_part rfl rfl) (part_any ((split_m s ([47])).getD x19 [])  _  (Laid.below hT hm26.below) ) (fun w36 (hm37 : Mm none S w w36 [.row v10 (split_m s ([47])).length ((split_m s ([47])).flatMap eS) 9 1]) => ?_))
    simp only [nz1, nz2, nz3]
    refine lvw 20 (.bool (!(part_m ((split_m s ([47])).getD x19 [])))) rfl rfl (r_not (part_m ((split_m s ([47])).getD x19 [])) rfl rfl) ?_
    simp only [nz1, nz2, nz3]
    refine wpList_nil ?_
    refine then_n (hK35 _ _ ?_)
    refine cond_B (!(part_m ((split_m s ([47])).getD x19 []))) rfl (fun hc38 => ?_) (fun hc38 => ?_)
    rotate_left
    · refine wp_skip ?_
      refine blk_n ?_
      refine then_n (hK33 _ _ ?_)
      refine wp_region_lit ?_
      refine lvw 21 (.int .i64 (((x19 + 1) : Nat) : Int)) rfl rfl (r_add x19 1 (show (x19 + 1) < 9223372036854775808 from by omega) rfl rfl rfl) ?_
      simp only [nz1, nz2, nz3]
      refine lvw 14 (.int .i64 (((x19 + 1) : Nat) : Int)) rfl rfl (run_mv rfl rfl) ?_
      simp only [nz1, nz2, nz3]
      refine wpList_nil ?_
      refine then_n (hR27 _ _ _ ⟨k21, (x19 + 1), (fun qq => List.getD [u0 0, u0 1, .string (tx ((split_m s ([47])).getD x19 [])), .bool (decide (x19 < (split_m s ([47])).length)), .pointer (some ⟨(bk v10), (po v10 + x19 * 1), none⟩), .string (tx ((split_m s ([47])).getD x19 [])), .string (tx ((split_m s ([47])).getD x19 [])), .bool ((part_m ((split_m s ([47])).getD x19 []))), .bool (!(part_m ((split_m s ([47])).getD x19 []))), .int .i64 (((x19 + 1) : Nat) : Int)] qq undef), rfl, (by first | omega | (simp; omega) | (simp at *; omega)), (hi22.trans (show parts_m_b0 s (parts_m_l0 s k21) x19 = parts_m_l0 s k21 (x19 + 1) from by unfold parts_m_b0; rw [if_pos hc32, if_neg hc38] <;> rfl)), rfl, hm37⟩ ?_)
      omega
    refine wp_seq_k (fun K39 hK39 => ?_)
    refine wp_region_lit ?_
    refine lvw 2 (.slice none 0 0) rfl rfl (run_as rfl rfl) ?_
    simp only [nz1, nz2, nz3]
    refine lvw 3 (.int .i64 4) rfl rfl (run_as rfl rfl) ?_
    simp only [nz1, nz2, nz3]
    refine wpList_nil ?_
    refine then_n (hK39 _ _ ?_)
    refine wp_ret ?_
    refine blk_r ?_
    refine then_r ?_
    refine then_r ?_
    refine blk_r ?_
    refine then_r ?_
    refine then_r ?_
    have he40 : parts_m_l0 s (((split_m s ([47])).length - 0) + 1) 0 = .inr (([] : List (List UInt8)), 4) := (hi22.trans (show parts_m_b0 s (parts_m_l0 s k21) x19 = .inr (([] : List (List UInt8)), 4) from by unfold parts_m_b0; rw [if_pos hc32, if_pos hc38] <;> rfl))
    have he41 : parts_m s = (([] : List (List UInt8)), 4) := (show parts_m s = (([] : List (List UInt8)), 4) from by unfold parts_m; rw [if_neg hc4, he40] <;> rfl)
    exact ⟨rfl, .tuple #[.slice none 0 0, .int .i64 4], res_tt rfl rfl rfl, ⟨⟨_, rfl, (.slice none 0 0), (by first | rfl | rw [he41]), by rw [he41]; exact hm37.give (From.pure (fun W => Rs.nil eS 1 W))⟩, hm37.below⟩⟩
  rintro _ w42 ⟨y23, yu0, hx24, rfl, hm43⟩
  have hq44 : parts_m s = parts_m_k0 s y23 := (show parts_m s = parts_m_k0 s y23 from by unfold parts_m; rw [if_neg hc4, hx24] <;> rfl)
  refine then_n (hK17 _ _ ?_)
  refine wp_seq_k (fun K45 hK45 => ?_)
  refine wp_seq_k (fun K46 hK46 => ?_)
  refine wp_region_lit ?_
  refine lvw 22 (v10) rfl rfl (run_mv rfl rfl) ?_
  simp only [nz1, nz2, nz3]
  refine lvw 23 (.int .i64 (((split_m s ([47])).length : Nat) : Int)) rfl rfl (s_len (Rs.row (hm43.row 0 rfl)) rfl Tryd.underlying22 rfl) ?_
  simp only [nz1, nz2, nz3]
  refine lvw 24 (.bool (decide (16 < (split_m s ([47])).length))) rfl rfl (r_gtr ((split_m s ([47])).length) 16 rfl rfl rfl) ?_
  simp only [nz1, nz2, nz3]
  refine wpList_nil ?_
  refine then_n (hK46 _ _ ?_)
  refine cond_d (16 < (split_m s ([47])).length) rfl (fun hc47 => ?_) (fun hc47 => ?_)
  · refine wp_seq_k (fun K48 hK48 => ?_)
    refine wp_region_lit ?_
    refine lvw 2 (.slice none 0 0) rfl rfl (run_as rfl rfl) ?_
    simp only [nz1, nz2, nz3]
    refine lvw 3 (.int .i64 3) rfl rfl (run_as rfl rfl) ?_
    simp only [nz1, nz2, nz3]
    refine wpList_nil ?_
    refine then_n (hK48 _ _ ?_)
    refine wp_ret ?_
    refine then_r ?_
    have he49 : parts_m s = (([] : List (List UInt8)), 3) := (hq44.trans (show parts_m_k0 s y23 = (([] : List (List UInt8)), 3) from by unfold parts_m_k0; rw [if_pos hc47] <;> rfl))
    exact ⟨rfl, .tuple #[.slice none 0 0, .int .i64 3], res_tt rfl rfl rfl, ⟨⟨_, rfl, (.slice none 0 0), (by first | rfl | rw [he49]), by rw [he49]; exact hm43.give (From.pure (fun W => Rs.nil eS 1 W))⟩, hm43.below⟩⟩
  refine wp_skip ?_
  refine then_n (hK45 _ _ ?_)
  refine wp_seq_k (fun K50 hK50 => ?_)
  refine wp_region_lit ?_
  refine lvw 25 (v10) rfl rfl (run_mv rfl rfl) ?_
  simp only [nz1, nz2, nz3]
  refine lvw 2 (v10) rfl rfl (run_as rfl rfl) ?_
  simp only [nz1, nz2, nz3]
  refine lvw 3 (.int .i64 0) rfl rfl (run_as rfl rfl) ?_
  simp only [nz1, nz2, nz3]
  refine wpList_nil ?_
  refine then_n (hK50 _ _ ?_)
  refine wp_ret ?_
  have hm51 : Mm none S w w42 [.see (Rs eS 1 (split_m s ([47])) v10) (fp v10 ((split_m s ([47])).flatMap eS))] := hm43.freeze 0 rfl
  have he52 : parts_m s = ((split_m s ([47])), 0) := (hq44.trans (show parts_m_k0 s y23 = ((split_m s ([47])), 0) from by unfold parts_m_k0; rw [if_neg hc47] <;> rfl))
  exact ⟨rfl, .tuple #[v10, .int .i64 0], res_tt rfl rfl rfl, ⟨⟨_, rfl, v10, (by first | rfl | rw [he52]), by rw [he52]; exact hm51.give (hm51.from 0 rfl)⟩, hm51.below⟩⟩
theorem run_parts {o : Oper} {a : Act} {w : World} {x0 : Operand} {v0 : Value} (ho : o.op = .call { callee := .value (.func 15), args := #[x0], argTypes := #[9] }) (h0 : a.eval x0 = v0) :
    (execOp a.eval o).run Tryd.prog w = .ok (.enter 15 #[v0]) w := by
  unfold execOp
  simp only [ho]
  have hf : a.eval (.func 15) = .func (.func 15) #[] #[] := rfl
  generalize a.eval = f at *
  go_simp
def pjoin_m (l : List (List UInt8)) : (List UInt8) :=
  (join_m l ([47]))

set_option maxHeartbeats 4000000 in
set_option maxRecDepth 100000 in
theorem pjoin_any (l : List (List UInt8)) (lv0 : Value) (w : World) (hl : Rs eS 1 l lv0 w) (hp0 : l.length ≤ 140737488355328) (hp1 : (join_m l [47]).length ≤ 140737488355328) : Calls Tryd.prog 29 #[lv0] w (fun e w' => e = .returned (.string (tx (pjoin_m l))) ∧ Below w.heap.size w w') := by
  go_enter Tryd.func29, Tryd.ntmps29
  have hm00 := Mm.nil none (fun _ => True) w
  obtain ⟨Fl, hm01⟩ : ∃ Fl, Mm none (fun _ => True) w w [.see (Rs eS 1 l lv0) Fl] := hm00.come (Rs.all hl)
  have hm0 := hm01
  refine wp_seq_k (fun K1 hK1 => ?_)
  refine wp_region_lit ?_
  refine lvw 2 (.string (tx ([]))) rfl rfl (run_as rfl rfl) ?_
  simp only [nz1, nz2, nz3]
  refine wpList_nil ?_
  refine then_n (hK1 _ _ ?_)
  refine wp_seq_k (fun K2 hK2 => ?_)
  refine wp_region_lit ?_
  refine lvw 3 (lv0) rfl rfl (run_mv rfl rfl) ?_
  simp only [nz1, nz2, nz3]
  refine lst rfl (m_call hm0 4 (.string (tx (join_m l ([47])))) rfl (run_join rfl rfl rfl) (join_any l ([47]) lv0 _ (hm0.see 0 rfl) (by first | omega | assumption | decide | (simp; done) | (simp; omega)) (by first | omega | assumption | decide | (simp; done) | (simp; omega))) (fun w3 (hm4 : Mm none (fun _ => True) w w3 [.see (Rs eS 1 l lv0) Fl]) => ?_))
  simp only [nz1, nz2, nz3]
  refine lvw 2 (.string (tx (join_m l ([47])))) rfl rfl (run_as rfl rfl) ?_
  simp only [nz1, nz2, nz3]
  refine wpList_nil ?_
  refine then_n (hK2 _ _ ?_)
  refine wp_ret ?_
  have he5 : pjoin_m l = (join_m l ([47])) := (show pjoin_m l = (join_m l ([47])) from by unfold pjoin_m; rfl)
  exact ⟨rfl, .string (tx (join_m l ([47]))), res_t rfl rfl, ⟨by rw [he5], hm4.below⟩⟩
theorem run_pjoin {o : Oper} {a : Act} {w : World} {x0 : Operand} {v0 : Value} (ho : o.op = .call { callee := .value (.func 29), args := #[x0], argTypes := #[22] }) (h0 : a.eval x0 = v0) :
    (execOp a.eval o).run Tryd.prog w = .ok (.enter 29 #[v0]) w := by
  unfold execOp
  simp only [ho]
  have hf : a.eval (.func 29) = .func (.func 29) #[] #[] := rfl
  generalize a.eval = f at *
  go_simp
def parent_m (s : List UInt8) : (List UInt8) :=
  if (lix_m s (UInt8.ofNat 47)) < 0 then
    ([])
  else
    (s.take ((lix_m s (UInt8.ofNat 47)).toNat))

set_option maxHeartbeats 4000000 in
set_option maxRecDepth 100000 in
theorem parent_any (s : List UInt8) (w : World)  (hp0 : s.length ≤ 140737488355328) : Calls Tryd.prog 23 #[.string (tx s)] w (fun e w' => e = .returned (.string (tx (parent_m s))) ∧ Below w.heap.size w w') := by
  go_enter Tryd.func23, Tryd.ntmps23
  have hm00 := Mm.nil none (fun _ => True) w
  have hm0 := hm00
  refine wp_seq_k (fun K1 hK1 => ?_)
  refine wp_region_lit ?_
  refine lvw 2 (.string (tx ([]))) rfl rfl (run_as rfl rfl) ?_
  simp only [nz1, nz2, nz3]
  refine wpList_nil ?_
  refine then_n (hK1 _ _ ?_)
  refine wp_seq_k (fun K2 hK2 => ?_)
  refine wp_region_lit ?_
  refine lvw 4 (.string (tx s)) rfl rfl (run_mv rfl rfl) ?_
  simp only [nz1, nz2, nz3]
  refine lst rfl (m_call hm0 5 (.int .i64 ((lix_m s (UInt8.ofNat 47)))) rfl (run_lix rfl rfl rfl) (lix_any s (UInt8.ofNat 47)  _  (by first | omega | assumption | decide | (simp; done) | (simp; omega))) (fun w3 (hm4 : Mm none (fun _ => True) w w3 []) => ?_))
  have hf5 : -1 ≤ (lix_m s (UInt8.ofNat 47)) ∧ (lix_m s (UInt8.ofNat 47)) < ((s.length : Nat) : Int) := lix_rng s (UInt8.ofNat 47)
  simp only [nz1, nz2, nz3]
  refine lvw 3 (.int .i64 ((lix_m s (UInt8.ofNat 47)))) rfl rfl (run_as rfl rfl) ?_
  simp only [nz1, nz2, nz3]
  refine wpList_nil ?_
  refine then_n (hK2 _ _ ?_)
  refine wp_seq_k (fun K6 hK6 => ?_)
  refine wp_seq_k (fun K7 hK7 => ?_)
  refine wp_region_lit ?_
  refine lvw 6 (.int .i64 ((lix_m s (UInt8.ofNat 47)))) rfl rfl (run_mv rfl rfl) ?_
  simp only [nz1, nz2, nz3]
  refine lvw 7 (.bool (decide ((lix_m s (UInt8.ofNat 47)) < 0))) rfl rfl (z_lss (lix_m s (UInt8.ofNat 47)) 0 rfl rfl rfl) ?_
  simp only [nz1, nz2, nz3]
  refine wpList_nil ?_
  refine then_n (hK7 _ _ ?_)
  refine cond_d ((lix_m s (UInt8.ofNat 47)) < 0) rfl (fun hc8 => ?_) (fun hc8 => ?_)
  · refine wp_seq_k (fun K9 hK9 => ?_)
    refine wp_region_lit ?_
    refine lvw 2 (.string (tx ([]))) rfl rfl (run_as rfl rfl) ?_
    simp only [nz1, nz2, nz3]
    refine wpList_nil ?_
    refine then_n (hK9 _ _ ?_)
    refine wp_ret ?_
    refine then_r ?_
    have he10 : parent_m s = ([]) := (show parent_m s = ([]) from by unfold parent_m; rw [if_pos hc8] <;> rfl)
    exact ⟨rfl, .string (tx ([])), res_t rfl rfl, ⟨by rw [he10], hm4.below⟩⟩
  refine wp_skip ?_
  refine then_n (hK6 _ _ ?_)
  refine wp_seq_k (fun K11 hK11 => ?_)
  refine wp_region_lit ?_
  refine lvw 8 (.string (tx s)) rfl rfl (run_mv rfl rfl) ?_
  simp only [nz1, nz2, nz3]
  refine lvw 9 (.int .i64 ((lix_m s (UInt8.ofNat 47)))) rfl rfl (run_mv rfl rfl) ?_
  simp only [nz1, nz2, nz3]
  refine lvw 10 (.string (tx (s.take ((lix_m s (UInt8.ofNat 47)).toNat)))) rfl rfl (t_to s ((lix_m s (UInt8.ofNat 47)).toNat) (by omega) Tryd.underlying9 rfl rfl (show (Value.int .i64 (lix_m s (UInt8.ofNat 47))) = .int .i64 (((lix_m s (UInt8.ofNat 47)).toNat : Nat) : Int) from by congr 1; omega)) ?_
  simp only [nz1, nz2, nz3]
  refine lvw 2 (.string (tx (s.take ((lix_m s (UInt8.ofNat 47)).toNat)))) rfl rfl (run_as rfl rfl) ?_
  simp only [nz1, nz2, nz3]
  refine wpList_nil ?_
  refine then_n (hK11 _ _ ?_)
  refine wp_ret ?_
  have he12 : parent_m s = (s.take ((lix_m s (UInt8.ofNat 47)).toNat)) := (show parent_m s = (s.take ((lix_m s (UInt8.ofNat 47)).toNat)) from by unfold parent_m; rw [if_neg hc8] <;> rfl)
  exact ⟨rfl, .string (tx (s.take ((lix_m s (UInt8.ofNat 47)).toNat))), res_t rfl rfl, ⟨by rw [he12], hm4.below⟩⟩
theorem run_parent {o : Oper} {a : Act} {w : World} {x0 : Operand} {v0 : Value} (ho : o.op = .call { callee := .value (.func 23), args := #[x0], argTypes := #[9] }) (h0 : a.eval x0 = v0) :
    (execOp a.eval o).run Tryd.prog w = .ok (.enter 23 #[v0]) w := by
  unfold execOp
  simp only [ho]
  have hf : a.eval (.func 23) = .func (.func 23) #[] #[] := rfl
  generalize a.eval = f at *
  go_simp
def reserved_m (s : List UInt8) : Bool :=
  (decide ((cut_m s ([47])).1 = own_m))

set_option maxHeartbeats 4000000 in
set_option maxRecDepth 100000 in
theorem reserved_any (s : List UInt8) (w : World)  (hT : Laid w) (hp0 : s.length < 4294967281) : Calls Tryd.prog 25 #[.string (tx s)] w (fun e w' => e = .returned (.bool ((reserved_m s))) ∧ Below w.heap.size w w') := by
  go_enter Tryd.func25, Tryd.ntmps25
  have hm00 := Mm.nil none (fun _ => True) w
  have hm0 := hm00
  refine wp_seq_k (fun K1 hK1 => ?_)
  refine wp_region_lit ?_
  refine lvw 2 (.bool false) rfl rfl (run_as rfl rfl) ?_
  simp only [nz1, nz2, nz3]
  refine wpList_nil ?_
  refine then_n (hK1 _ _ ?_)
  refine wp_seq_k (fun K2 hK2 => ?_)
  refine wp_region_lit ?_
  refine lvw 7 (.string (tx s)) rfl rfl (run_mv rfl rfl) ?_
  simp only [nz1, nz2, nz3]
  refine lst rfl (m_call hm0 8 (.tuple #[.string (tx ((cut_m s ([47])).1)), .string (tx ((cut_m s ([47])).2.1)), .bool ((cut_m s ([47])).2.2)]) rfl (run_cut rfl rfl rfl) (cut_any s ([47])  _  (Laid.below hT hm0.below) (by first | omega | assumption | decide | (simp; done) | (simp; omega))) (fun w3 (hm4 : Mm none (fun _ => True) w w3 []) => ?_))
  simp only [nz1, nz2, nz3]
  refine lvw 6 (.tuple #[.string (tx ((cut_m s ([47])).1)), .string (tx ((cut_m s ([47])).2.1)), .bool ((cut_m s ([47])).2.2)]) rfl rfl (run_mv rfl rfl) ?_
  simp only [nz1, nz2, nz3]
  refine lvw 9 (.string (tx ((cut_m s ([47])).1))) rfl rfl (run_ex rfl rfl rfl) ?_
  simp only [nz1, nz2, nz3]
  refine lvw 10 (.string (tx ((cut_m s ([47])).2.1))) rfl rfl (run_ex rfl rfl rfl) ?_
  simp only [nz1, nz2, nz3]
  refine lvw 11 (.bool ((cut_m s ([47])).2.2)) rfl rfl (run_ex rfl rfl rfl) ?_
  simp only [nz1, nz2, nz3]
  refine lvw 3 (.string (tx ((cut_m s ([47])).1))) rfl rfl (run_as rfl rfl) ?_
  simp only [nz1, nz2, nz3]
  refine lvw 4 (.string (tx ((cut_m s ([47])).2.1))) rfl rfl (run_as rfl rfl) ?_
  simp only [nz1, nz2, nz3]
  refine lvw 5 (.bool ((cut_m s ([47])).2.2)) rfl rfl (run_as rfl rfl) ?_
  simp only [nz1, nz2, nz3]
  refine wpList_nil ?_
  refine then_n (hK2 _ _ ?_)
  refine wp_seq_k (fun K5 hK5 => ?_)
  refine wp_region_lit ?_
  refine lvw 12 (.string (tx ((cut_m s ([47])).1))) rfl rfl (run_mv rfl rfl) ?_
  simp only [nz1, nz2, nz3]
  refine lst rfl (m_call hm4 13 (.string (tx own_m)) rfl (run_own rfl) (own_any   _  ) (fun w6 (hm7 : Mm none (fun _ => True) w w6 []) => ?_))
  simp only [nz1, nz2, nz3]
  refine lvw 14 (.bool (decide ((cut_m s ([47])).1 = own_m))) rfl rfl (t_eql ((cut_m s ([47])).1) own_m rfl rfl rfl) ?_
  simp only [nz1, nz2, nz3]
  refine lvw 2 (.bool (decide ((cut_m s ([47])).1 = own_m))) rfl rfl (run_as rfl rfl) ?_
  simp only [nz1, nz2, nz3]
  refine wpList_nil ?_
  refine then_n (hK5 _ _ ?_)
  refine wp_ret ?_
  have he8 : reserved_m s = (decide ((cut_m s ([47])).1 = own_m)) := (show reserved_m s = (decide ((cut_m s ([47])).1 = own_m)) from by unfold reserved_m; rfl)
  exact ⟨rfl, .bool (decide ((cut_m s ([47])).1 = own_m)), res_t rfl rfl, ⟨by rw [he8], hm7.below⟩⟩
theorem run_reserved {o : Oper} {a : Act} {w : World} {x0 : Operand} {v0 : Value} (ho : o.op = .call { callee := .value (.func 25), args := #[x0], argTypes := #[9] }) (h0 : a.eval x0 = v0) :
    (execOp a.eval o).run Tryd.prog w = .ok (.enter 25 #[v0]) w := by
  unfold execOp
  simp only [ho]
  have hf : a.eval (.func 25) = .func (.func 25) #[] #[] := rfl
  generalize a.eval = f at *
  go_simp
def target_m (s : List UInt8) : Bool :=
  if 1 ≤ s.length then
    if s.length ≤ 200 then
      (signs_m s true)
    else
      false
  else
    false

set_option maxHeartbeats 4000000 in
set_option maxRecDepth 100000 in
theorem target_any (s : List UInt8) (w : World)  (hT : Laid w)  : Calls Tryd.prog 20 #[.string (tx s)] w (fun e w' => e = .returned (.bool ((target_m s))) ∧ Below w.heap.size w w') := by
  go_enter Tryd.func20, Tryd.ntmps20
  have hm00 := Mm.nil none (fun _ => True) w
  have hm0 := hm00
  refine wp_seq_k (fun K1 hK1 => ?_)
  refine wp_region_lit ?_
  refine lvw 2 (.bool false) rfl rfl (run_as rfl rfl) ?_
  simp only [nz1, nz2, nz3]
  refine wpList_nil ?_
  refine then_n (hK1 _ _ ?_)
  refine wp_seq_k (fun K2 hK2 => ?_)
  refine wp_region_lit ?_
  refine lvw 3 (.string (tx s)) rfl rfl (run_mv rfl rfl) ?_
  simp only [nz1, nz2, nz3]
  refine lvw 4 (.int .i64 ((s.length : Nat) : Int)) rfl rfl (t_len rfl Tryd.underlying9 rfl) ?_
  simp only [nz1, nz2, nz3]
  refine lvb 5 (1 ≤ s.length) rfl rfl (r_geq s.length 1 rfl rfl rfl) (fun hs3 => ?_) (fun hs3 => ?_)
  rotate_left
  · simp only [nz1, nz2, nz3]
    refine lvw 6 (.bool false) rfl rfl (run_mv rfl rfl) ?_
    simp only [nz1, nz2, nz3]
    refine lst_skip 7 rfl rfl ?_
    simp only [nz1, nz2, nz3]
    refine lst_skip 8 rfl rfl ?_
    simp only [nz1, nz2, nz3]
    refine lst_skip 9 rfl rfl ?_
    simp only [nz1, nz2, nz3]
    refine lvw 10 (.bool false) rfl rfl (run_pickf rfl rfl rfl) ?_
    simp only [nz1, nz2, nz3]
    refine lvw 11 (.bool false) rfl rfl (run_mv rfl rfl) ?_
    simp only [nz1, nz2, nz3]
    refine lst_skip 12 rfl rfl ?_
    simp only [nz1, nz2, nz3]
    refine lst_skip 13 rfl rfl ?_
    simp only [nz1, nz2, nz3]
    refine lvw 14 (.bool false) rfl rfl (run_pickf rfl rfl rfl) ?_
    simp only [nz1, nz2, nz3]
    refine lvw 2 (.bool false) rfl rfl (run_as rfl rfl) ?_
    simp only [nz1, nz2, nz3]
    refine wpList_nil ?_
    refine then_n (hK2 _ _ ?_)
    refine wp_ret ?_
    have he9 : target_m s = false := (show target_m s = false from by unfold target_m; rw [if_neg hs3] <;> rfl)
    exact ⟨rfl, .bool false, res_t rfl rfl, ⟨by rw [he9], hm0.below⟩⟩
  simp only [nz1, nz2, nz3]
  refine lvw 6 (.bool true) rfl rfl (run_mv rfl rfl) ?_
  simp only [nz1, nz2, nz3]
  refine lvw 7 (.string (tx s)) rfl rfl (run_mv rfl rfl) ?_
  simp only [nz1, nz2, nz3]
  refine lvw 8 (.int .i64 ((s.length : Nat) : Int)) rfl rfl (t_len rfl Tryd.underlying9 rfl) ?_
  simp only [nz1, nz2, nz3]
  refine lvb 9 (s.length ≤ 200) rfl rfl (r_leq s.length 200 rfl rfl rfl) (fun hs4 => ?_) (fun hs4 => ?_)
  · simp only [nz1, nz2, nz3]
    refine lvw 10 (.bool true) rfl rfl (run_pick rfl rfl rfl) ?_
    simp only [nz1, nz2, nz3]
    refine lvw 11 (.bool true) rfl rfl (run_mv rfl rfl) ?_
    simp only [nz1, nz2, nz3]
    refine lvw 12 (.string (tx s)) rfl rfl (run_mv rfl rfl) ?_
    simp only [nz1, nz2, nz3]
    refine lst rfl (m_call hm0 13 (.bool ((signs_m s true))) rfl (run_signs rfl rfl rfl) (signs_any s true  _  (Laid.below hT hm0.below) (by first | omega | assumption | decide | (simp; done) | (simp; omega))) (fun w5 (hm6 : Mm none (fun _ => True) w w5 []) => ?_))
    simp only [nz1, nz2, nz3]
    refine lvw 14 (.bool ((signs_m s true))) rfl rfl (run_pick rfl rfl rfl) ?_
    simp only [nz1, nz2, nz3]
    refine lvw 2 (.bool ((signs_m s true))) rfl rfl (run_as rfl rfl) ?_
    simp only [nz1, nz2, nz3]
    refine wpList_nil ?_
    refine then_n (hK2 _ _ ?_)
    refine wp_ret ?_
    have he7 : target_m s = (signs_m s true) := (show target_m s = (signs_m s true) from by unfold target_m; rw [if_pos hs3, if_pos hs4] <;> rfl)
    exact ⟨rfl, .bool ((signs_m s true)), res_t rfl rfl, ⟨by rw [he7], hm6.below⟩⟩
  simp only [nz1, nz2, nz3]
  refine lvw 10 (.bool false) rfl rfl (run_pick rfl rfl rfl) ?_
  simp only [nz1, nz2, nz3]
  refine lvw 11 (.bool false) rfl rfl (run_mv rfl rfl) ?_
  simp only [nz1, nz2, nz3]
  refine lst_skip 12 rfl rfl ?_
  simp only [nz1, nz2, nz3]
  refine lst_skip 13 rfl rfl ?_
  simp only [nz1, nz2, nz3]
  refine lvw 14 (.bool false) rfl rfl (run_pickf rfl rfl rfl) ?_
  simp only [nz1, nz2, nz3]
  refine lvw 2 (.bool false) rfl rfl (run_as rfl rfl) ?_
  simp only [nz1, nz2, nz3]
  refine wpList_nil ?_
  refine then_n (hK2 _ _ ?_)
  refine wp_ret ?_
  have he8 : target_m s = false := (show target_m s = false from by unfold target_m; rw [if_pos hs3, if_neg hs4] <;> rfl)
  exact ⟨rfl, .bool false, res_t rfl rfl, ⟨by rw [he8], hm0.below⟩⟩
theorem run_target {o : Oper} {a : Act} {w : World} {x0 : Operand} {v0 : Value} (ho : o.op = .call { callee := .value (.func 20), args := #[x0], argTypes := #[9] }) (h0 : a.eval x0 = v0) :
    (execOp a.eval o).run Tryd.prog w = .ok (.enter 20 #[v0]) w := by
  unfold execOp
  simp only [ho]
  have hf : a.eval (.func 20) = .func (.func 20) #[] #[] := rfl
  generalize a.eval = f at *
  go_simp
end Go.Proofs.YtdohmmdfenafnaaDoor.Pa
