/- Layer 7: the example. -/
import Derived.Test.YtdohmmdfenafnaaDoorPaB
import Derived.Test.YtdohmmdfenafnaaDoorPaD
namespace Go.Proofs.YtdohmmdfenafnaaDoor.Pa
open Go.RowKit
open Go.Proofs.YtdohmmdfenafnaaDoor.Sym Go.Proofs.YtdohmmdfenafnaaDoor.Mem
open Go.Proofs.YtdohmmdfenafnaaDoor.Sx hiding Mm m_alloc m_store m_put m_call m_callx m_make m_append r_string r_ixS
set_option linter.unusedVariables false
attribute [local irreducible] wpList Oper.wp

def same_m_b0 (a : List (List UInt8)) (b : List (List UInt8)) (rec : Nat → Sum (Nat) (Bool)) (x9 : Nat) : Sum (Nat) (Bool) :=
  if x9 < a.length then
    if ¬ (a.getD x9 []) = (b.getD x9 []) then
      .inr false
    else
      rec (x9 + 1)
  else
    .inl x9
def same_m_l0 (a : List (List UInt8)) (b : List (List UInt8)) : Nat → Nat → Sum (Nat) (Bool)
  | 0, zz => .inl zz
  | nq + 1, zz => same_m_b0 a b (same_m_l0 a b nq) zz

def same_m_k0 (a : List (List UInt8)) (b : List (List UInt8)) (y13 : Nat) : Bool :=
  true

def same_m (a : List (List UInt8)) (b : List (List UInt8)) : Bool :=
  if ¬ a.length = b.length then
    false
  else
    fin (same_m_l0 a b ((a.length - 0) + 1) 0) (fun r => r) (fun zz => same_m_k0 a b zz)

set_option maxHeartbeats 4000000 in
set_option maxRecDepth 100000 in
theorem same_any (a : List (List UInt8)) (b : List (List UInt8)) (av0 bv0 : Value) (w : World) (ha : Rs eS 1 a av0 w) (hb : Rs eS 1 b bv0 w) (hp0 : a.length ≤ 8796093022208) : Calls Tryd.prog 22 #[av0, bv0] w (fun e w' => e = .returned (.bool ((same_m a b))) ∧ Below w.heap.size w w') := by
  go_enter Tryd.func22, Tryd.ntmps22
  have hm00 := Mm.nil none (fun _ => True) w
  obtain ⟨Fa, hm01⟩ : ∃ Fa, Mm none (fun _ => True) w w [.see (Rs eS 1 a av0) Fa] := hm00.come (Rs.all ha)
  obtain ⟨Fb, hm02⟩ : ∃ Fb, Mm none (fun _ => True) w w [.see (Rs eS 1 a av0) Fa, .see (Rs eS 1 b bv0) Fb] := hm01.come (Rs.all hb)
  have hm0 := hm02
  refine wp_seq_k (fun K1 hK1 => ?_)
  refine wp_region_lit ?_
  refine lvw 4 (.bool false) rfl rfl (run_as rfl rfl) ?_
  simp only [nz1, nz2, nz3]
  refine wpList_nil ?_
  refine then_n (hK1 _ _ ?_)
  refine wp_seq_k (fun K2 hK2 => ?_)
  refine wp_seq_k (fun K3 hK3 => ?_)
  refine wp_region_lit ?_
  refine lvw 6 (av0) rfl rfl (run_mv rfl rfl) ?_
  simp only [nz1, nz2, nz3]
  refine lvw 7 (.int .i64 ((a.length : Nat) : Int)) rfl rfl (s_len ((hm0.see 0 rfl)) rfl Tryd.underlying22 rfl) ?_
  simp only [nz1, nz2, nz3]
  refine lvw 8 (bv0) rfl rfl (run_mv rfl rfl) ?_
  simp only [nz1, nz2, nz3]
  refine lvw 9 (.int .i64 ((b.length : Nat) : Int)) rfl rfl (s_len ((hm0.see 1 rfl)) rfl Tryd.underlying22 rfl) ?_
  simp only [nz1, nz2, nz3]
  refine lvw 10 (.bool (decide (¬ a.length = b.length))) rfl rfl (r_neq a.length b.length rfl rfl rfl) ?_
  simp only [nz1, nz2, nz3]
  refine wpList_nil ?_
  refine then_n (hK3 _ _ ?_)
  refine cond_d (¬ a.length = b.length) rfl (fun hc4 => ?_) (fun hc4 => ?_)
  · refine wp_seq_k (fun K5 hK5 => ?_)
    refine wp_region_lit ?_
    refine lvw 4 (.bool false) rfl rfl (run_as rfl rfl) ?_
    simp only [nz1, nz2, nz3]
    refine wpList_nil ?_
    refine then_n (hK5 _ _ ?_)
    refine wp_ret ?_
    refine then_r ?_
    have he6 : same_m a b = false := (show same_m a b = false from by unfold same_m; rw [if_pos hc4] <;> rfl)
    exact ⟨rfl, .bool false, res_t rfl rfl, ⟨by rw [he6], hm0.below⟩⟩
  refine wp_skip ?_
  refine then_n (hK2 _ _ ?_)
  refine wp_seq_k (fun K7 hK7 => ?_)
  refine wp_seq_k (fun K8 hK8 => ?_)
  refine wp_region_lit ?_
  refine lvw 5 (.int .i64 0) rfl rfl (run_as rfl rfl) ?_
  simp only [nz1, nz2, nz3]
  refine wpList_nil ?_
  refine then_n (hK8 _ _ ?_)
  refine wp_cutK (fun a' w' => ∃ (y13 : Nat) (yu0 : Nat → Value), same_m_l0 a b ((a.length - 0) + 1) 0 = .inl y13 ∧ a' = ⟨#[av0, bv0, undef, undef, yu0 0, .int .i64 ((y13 : Nat) : Int), av0, .int .i64 ((a.length : Nat) : Int), bv0, .int .i64 ((b.length : Nat) : Int), .bool (decide (¬ a.length = b.length)), yu0 1, yu0 2, yu0 3, yu0 4, yu0 5, yu0 6, yu0 7, yu0 8, yu0 9, yu0 10, yu0 11, yu0 12, yu0 13, yu0 14, yu0 15], []⟩ ∧ Mm none (fun _ => True) w w' [.see (Rs eS 1 a av0) Fa, .see (Rs eS 1 b bv0) Fb]) ?_ ?_
  · refine wp_block ?_
    refine wp_loop_n (fun n' a' w' => ∃ (n10 : Nat) (x9 : Nat) (u0 : Nat → Value), n' = n10 ∧ (a.length - x9) < n10 ∧ same_m_l0 a b ((a.length - 0) + 1) 0 = same_m_l0 a b n10 x9 ∧ a' = ⟨#[av0, bv0, undef, undef, u0 0, .int .i64 ((x9 : Nat) : Int), av0, .int .i64 ((a.length : Nat) : Int), bv0, .int .i64 ((b.length : Nat) : Int), .bool (decide (¬ a.length = b.length)), u0 1, u0 2, u0 3, u0 4, u0 5, u0 6, u0 7, u0 8, u0 9, u0 10, u0 11, u0 12, u0 13, u0 14, u0 15], []⟩ ∧ Mm none (fun _ => True) w w' [.see (Rs eS 1 a av0) Fa, .see (Rs eS 1 b bv0) Fb]) ⟨((a.length - 0) + 1), 0, (fun qq => List.getD [.bool false, undef, undef, undef, undef, undef, undef, undef, undef, undef, undef, undef, undef, undef, undef, undef] qq undef), rfl, Nat.lt_succ_self _, rfl, rfl, hm0⟩ ?_
    rintro n10 _ w15 ⟨_, x9, u0, rfl, hl19, hi12, rfl, hm16⟩ R17 hR17
    obtain ⟨k11, rfl⟩ : ∃ k, n10 = k + 1 := ⟨n10 - 1, by omega⟩
    refine wp_seq_k (fun K20 hK20 => ?_)
    refine wp_seq_k (fun K21 hK21 => ?_)
    refine wp_region_lit ?_
    refine lvw 11 (.int .i64 ((x9 : Nat) : Int)) rfl rfl (run_mv rfl rfl) ?_
    simp only [nz1, nz2, nz3]
    refine lvw 12 (av0) rfl rfl (run_mv rfl rfl) ?_
    simp only [nz1, nz2, nz3]
    refine lvw 13 (.int .i64 ((a.length : Nat) : Int)) rfl rfl (s_len ((hm16.see 0 rfl)) rfl Tryd.underlying22 rfl) ?_
    simp only [nz1, nz2, nz3]
    refine lvw 14 (.bool (decide (x9 < a.length))) rfl rfl (r_lss x9 a.length rfl rfl rfl) ?_
    simp only [nz1, nz2, nz3]
    refine wpList_nil ?_
    refine then_n (hK21 _ _ ?_)
    refine cond_d (x9 < a.length) rfl (fun hc22 => ?_) (fun hc22 => ?_)
    rotate_left
    · refine wp_exit ?_
      refine then_x ?_
      refine then_x ?_
      refine blk_x ?_
      refine then_n ?_
      exact ⟨x9, (fun qq => List.getD [u0 0, .int .i64 ((x9 : Nat) : Int), av0, .int .i64 ((a.length : Nat) : Int), .bool (decide (x9 < a.length)), u0 5, u0 6, u0 7, u0 8, u0 9, u0 10, u0 11, u0 12, u0 13, u0 14, u0 15] qq undef), (hi12.trans (show same_m_b0 a b (same_m_l0 a b k11) x9 = .inl x9 from by unfold same_m_b0; rw [if_neg hc22] <;> rfl)), rfl, hm16⟩
    refine wp_skip ?_
    refine then_n (hK20 _ _ ?_)
    refine wp_seq_k (fun K23 hK23 => ?_)
    refine wp_block ?_
    refine wp_seq_k (fun K24 hK24 => ?_)
    have hm25 := hm16.drew
    refine wp_region_held_drew (S := fun w' => Rs eS 1 a av0 w' ∧ Rs eS 1 b bv0 w') (by kernel_rfl) (⟨((hm25.see 0 rfl)), ((hm25.see 1 rfl))⟩) (fun _ => ?_)
    generalize w15.drew = w26 at *
    refine tk 0 17 (av0) rfl rfl (fun _ hw => run_mv rfl rfl) (⟨((hm25.see 0 rfl)), ((hm25.see 1 rfl))⟩) ?_
    simp only [nz1, nz2, nz3]
    refine tk 1 18 (.int .i64 ((x9 : Nat) : Int)) rfl rfl (fun _ hw => run_mv rfl rfl) (⟨((hm25.see 0 rfl)), ((hm25.see 1 rfl))⟩) ?_
    simp only [nz1, nz2, nz3]
    refine tk 2 19 (.pointer (some ⟨(bk av0), (po av0 + x9 * 1), none⟩)) rfl rfl (fun _ hw => r_ixv ((hm25.see 0 rfl)) x9 (by omega) Tryd.underlying22 sz_9 rfl rfl rfl) (⟨((hm25.see 0 rfl)), ((hm25.see 1 rfl))⟩) ?_
    simp only [nz1, nz2, nz3]
    refine tk 3 20 (.string (tx (a.getD x9 []))) rfl rfl (fun _ hw => r_cellw (Rs.cell hw.1 eS_len [] x9 (by omega) 0 _ rfl) Tryd.underlying9 rfl rfl rfl) (⟨((hm25.see 0 rfl)), ((hm25.see 1 rfl))⟩) ?_
    simp only [nz1, nz2, nz3]
    refine tk 4 21 (bv0) rfl rfl (fun _ hw => run_mv rfl rfl) (⟨((hm25.see 0 rfl)), ((hm25.see 1 rfl))⟩) ?_
    simp only [nz1, nz2, nz3]
    refine tk 5 22 (.int .i64 ((x9 : Nat) : Int)) rfl rfl (fun _ hw => run_mv rfl rfl) (⟨((hm25.see 0 rfl)), ((hm25.see 1 rfl))⟩) ?_
    simp only [nz1, nz2, nz3]
    refine tk 6 23 (.pointer (some ⟨(bk bv0), (po bv0 + x9 * 1), none⟩)) rfl rfl (fun _ hw => r_ixv ((hm25.see 1 rfl)) x9 (by omega) Tryd.underlying22 sz_9 rfl rfl rfl) (⟨((hm25.see 0 rfl)), ((hm25.see 1 rfl))⟩) ?_
    simp only [nz1, nz2, nz3]
    refine tk 7 24 (.string (tx (b.getD x9 []))) rfl rfl (fun _ hw => r_cellw (Rs.cell hw.2 eS_len [] x9 (by omega) 0 _ rfl) Tryd.underlying9 rfl rfl rfl) (⟨((hm25.see 0 rfl)), ((hm25.see 1 rfl))⟩) ?_
    simp only [nz1, nz2, nz3]
    refine tk 8 25 (.bool (decide (¬ (a.getD x9 []) = (b.getD x9 [])))) rfl rfl (fun _ hw => t_neq (a.getD x9 []) (b.getD x9 []) rfl rfl rfl) (⟨((hm25.see 0 rfl)), ((hm25.see 1 rfl))⟩) ?_
    simp only [nz1, nz2, nz3]
    refine wpAnyH_done (by kernel_rfl) ?_ _
    refine then_n (hK24 _ _ ?_)
    refine cond_d (¬ (a.getD x9 []) = (b.getD x9 [])) rfl (fun hc27 => ?_) (fun hc27 => ?_)
    rotate_left
    · refine wp_skip ?_
      refine blk_n ?_
      refine then_n (hK23 _ _ ?_)
      refine wp_region_lit ?_
      refine lvw 15 (.int .i64 ((x9 : Nat) : Int)) rfl rfl (run_mv rfl rfl) ?_
      simp only [nz1, nz2, nz3]
      refine lvw 16 (.int .i64 (((x9 + 1) : Nat) : Int)) rfl rfl (r_add x9 1 (show (x9 + 1) < 9223372036854775808 from by omega) rfl rfl rfl) ?_
      simp only [nz1, nz2, nz3]
      refine lvw 5 (.int .i64 (((x9 + 1) : Nat) : Int)) rfl rfl (run_as rfl rfl) ?_
      simp only [nz1, nz2, nz3]
      refine wpList_nil ?_
      refine then_n (hR17 _ _ _ ⟨k11, (x9 + 1), (fun qq => List.getD [u0 0, .int .i64 ((x9 : Nat) : Int), av0, .int .i64 ((a.length : Nat) : Int), .bool (decide (x9 < a.length)), .int .i64 ((x9 : Nat) : Int), .int .i64 (((x9 + 1) : Nat) : Int), av0, .int .i64 ((x9 : Nat) : Int), .pointer (some ⟨(bk av0), (po av0 + x9 * 1), none⟩), .string (tx (a.getD x9 [])), bv0, .int .i64 ((x9 : Nat) : Int), .pointer (some ⟨(bk bv0), (po bv0 + x9 * 1), none⟩), .string (tx (b.getD x9 [])), .bool (decide (¬ (a.getD x9 []) = (b.getD x9 [])))] qq undef), rfl, (by first | omega | (simp; omega) | (simp at *; omega)), (hi12.trans (show same_m_b0 a b (same_m_l0 a b k11) x9 = same_m_l0 a b k11 (x9 + 1) from by unfold same_m_b0; rw [if_pos hc22, if_neg hc27] <;> rfl)), rfl, hm25⟩ ?_)
      omega
    refine wp_seq_k (fun K28 hK28 => ?_)
    refine wp_region_lit ?_
    refine lvw 4 (.bool false) rfl rfl (run_as rfl rfl) ?_
    simp only [nz1, nz2, nz3]
    refine wpList_nil ?_
    refine then_n (hK28 _ _ ?_)
    refine wp_ret ?_
    refine blk_r ?_
    refine then_r ?_
    refine then_r ?_
    refine blk_r ?_
    refine then_r ?_
    refine then_r ?_
    have he29 : same_m_l0 a b ((a.length - 0) + 1) 0 = .inr false := (hi12.trans (show same_m_b0 a b (same_m_l0 a b k11) x9 = .inr false from by unfold same_m_b0; rw [if_pos hc22, if_pos hc27] <;> rfl))
    have he30 : same_m a b = false := (show same_m a b = false from by unfold same_m; rw [if_neg hc4, he29] <;> rfl)
    exact ⟨rfl, .bool false, res_t rfl rfl, ⟨by rw [he30], hm25.below⟩⟩
  rintro _ w31 ⟨y13, yu0, hx14, rfl, hm32⟩
  have hq33 : same_m a b = same_m_k0 a b y13 := (show same_m a b = same_m_k0 a b y13 from by unfold same_m; rw [if_neg hc4, hx14] <;> rfl)
  refine then_n (hK7 _ _ ?_)
  refine wp_seq_k (fun K34 hK34 => ?_)
  refine wp_region_lit ?_
  refine lvw 4 (.bool true) rfl rfl (run_as rfl rfl) ?_
  simp only [nz1, nz2, nz3]
  refine wpList_nil ?_
  refine then_n (hK34 _ _ ?_)
  refine wp_ret ?_
  have he35 : same_m a b = true := (hq33.trans (show same_m_k0 a b y13 = true from by unfold same_m_k0; rfl))
  exact ⟨rfl, .bool true, res_t rfl rfl, ⟨by rw [he35], hm32.below⟩⟩
theorem run_same {o : Oper} {a : Act} {w : World} {x0 x1 : Operand} {v0 v1 : Value} (ho : o.op = .call { callee := .value (.func 22), args := #[x0, x1], argTypes := #[22, 22] }) (h0 : a.eval x0 = v0) (h1 : a.eval x1 = v1) :
    (execOp a.eval o).run Tryd.prog w = .ok (.enter 22 #[v0, v1]) w := by
  unfold execOp
  simp only [ho]
  have hf : a.eval (.func 22) = .func (.func 22) #[] #[] := rfl
  generalize a.eval = f at *
  go_simp
def awake_m : Bool :=
  if (parts_m ([117, 115, 114, 47, 98, 105, 110, 47, 115, 104])).2 = 0 then
    if ((parts_m ([117, 115, 114, 47, 98, 105, 110, 47, 115, 104])).1).length = 3 then
      if (parts_m ([117, 115, 114, 47, 46, 46, 47, 115, 104])).2 = 4 then
        if (parts_m ([47, 117, 115, 114])).2 = 4 then
          if (parent_m ([117, 115, 114, 47, 98, 105, 110])) = [117, 115, 114] then
            if (part_m ([195, 164, 46, 116, 120, 116])) = true then
              if (!(part_m ([97, 127]))) = true then
                if (!(part_m ([97, 255]))) = true then
                  (reserved_m ([46, 104, 111, 108, 100, 97, 108, 108, 47, 120]))
                else
                  false
              else
                false
            else
              false
          else
            false
        else
          false
      else
        false
    else
      false
  else
    false

set_option maxHeartbeats 4000000 in
set_option maxRecDepth 100000 in
theorem awake_any (w : World)  (hT : Laid w)  : Calls Tryd.prog 17 #[] w (fun e w' => e = .returned (.bool (awake_m)) ∧ Below w.heap.size w w') := by
  go_enter Tryd.func17, Tryd.ntmps17
  have hm00 := Mm.nil none (fun _ => True) w
  have hm0 := hm00
  refine wp_seq_k (fun K1 hK1 => ?_)
  refine wp_region_lit ?_
  refine lvw 0 (.bool false) rfl rfl (run_as rfl rfl) ?_
  simp only [nz1, nz2]
  refine wpList_nil ?_
  refine then_n (hK1 _ _ ?_)
  refine wp_seq_k (fun K2 hK2 => ?_)
  refine wp_region_lit ?_
  refine lst rfl (m_callx hm0 8 rfl (run_parts rfl rfl) (parts_any ([117, 115, 114, 47, 98, 105, 110, 47, 115, 104])  (seeS []) _  (Laid.below hT hm0.below) ) (fun vv8 w3 hR9 hb10 hm4 => ?_))
  obtain ⟨v5, rfl, hg11⟩ := hR9
  obtain ⟨F7, hm12⟩ : ∃ F7, Mm none (fun _ => True) w w3 [.see (Rs eS 1 ((parts_m ([117, 115, 114, 47, 98, 105, 110, 47, 115, 104])).1) v5) F7] := Mm.tookS hm0 hb10 hg11
  clear hm4 hg11 hb10
  simp only [nz1, nz2, nz3]
  refine lvw 7 (.tuple #[v5, .int .i64 ((parts_m ([117, 115, 114, 47, 98, 105, 110, 47, 115, 104])).2)]) rfl rfl (run_mv rfl rfl) ?_
  simp only [nz1, nz2, nz3]
  refine lvw 9 (v5) rfl rfl (run_ex rfl rfl rfl) ?_
  simp only [nz1, nz2, nz3]
  refine lvw 10 (.int .i64 ((parts_m ([117, 115, 114, 47, 98, 105, 110, 47, 115, 104])).2)) rfl rfl (run_ex rfl rfl rfl) ?_
  simp only [nz1, nz2, nz3]
  refine lvw 1 (v5) rfl rfl (run_as rfl rfl) ?_
  simp only [nz1, nz2, nz3]
  refine lvw 2 (.int .i64 ((parts_m ([117, 115, 114, 47, 98, 105, 110, 47, 115, 104])).2)) rfl rfl (run_as rfl rfl) ?_
  simp only [nz1, nz2, nz3]
  refine wpList_nil ?_
  refine then_n (hK2 _ _ ?_)
  refine wp_seq_k (fun K13 hK13 => ?_)
  refine wp_region_lit ?_
  refine lst rfl (m_callx hm12 12 rfl (run_parts rfl rfl) (parts_any ([117, 115, 114, 47, 46, 46, 47, 115, 104])  (seeS [.see (Rs eS 1 ((parts_m ([117, 115, 114, 47, 98, 105, 110, 47, 115, 104])).1) v5) F7]) _  (Laid.below hT hm12.below) ) (fun vv19 w14 hR20 hb21 hm15 => ?_))
  obtain ⟨v16, rfl, hg22⟩ := hR20
  obtain ⟨F18, hm23⟩ : ∃ F18, Mm none (fun _ => True) w w14 [.see (Rs eS 1 ((parts_m ([117, 115, 114, 47, 98, 105, 110, 47, 115, 104])).1) v5) F7, .see (Rs eS 1 ((parts_m ([117, 115, 114, 47, 46, 46, 47, 115, 104])).1) v16) F18] := Mm.tookS hm12 hb21 hg22
  clear hm15 hg22 hb21
  simp only [nz1, nz2, nz3]
  refine lvw 11 (.tuple #[v16, .int .i64 ((parts_m ([117, 115, 114, 47, 46, 46, 47, 115, 104])).2)]) rfl rfl (run_mv rfl rfl) ?_
  simp only [nz1, nz2, nz3]
  refine lvw 13 (v16) rfl rfl (run_ex rfl rfl rfl) ?_
  simp only [nz1, nz2, nz3]
  refine lvw 14 (.int .i64 ((parts_m ([117, 115, 114, 47, 46, 46, 47, 115, 104])).2)) rfl rfl (run_ex rfl rfl rfl) ?_
  simp only [nz1, nz2, nz3]
  refine lvw 3 (v16) rfl rfl (run_as rfl rfl) ?_
  simp only [nz1, nz2, nz3]
  refine lvw 4 (.int .i64 ((parts_m ([117, 115, 114, 47, 46, 46, 47, 115, 104])).2)) rfl rfl (run_as rfl rfl) ?_
  simp only [nz1, nz2, nz3]
  refine wpList_nil ?_
  refine then_n (hK13 _ _ ?_)
  refine wp_seq_k (fun K24 hK24 => ?_)
  refine wp_region_lit ?_
  refine lst rfl (m_callx hm23 16 rfl (run_parts rfl rfl) (parts_any ([47, 117, 115, 114])  (seeS [.see (Rs eS 1 ((parts_m ([117, 115, 114, 47, 98, 105, 110, 47, 115, 104])).1) v5) F7, .see (Rs eS 1 ((parts_m ([117, 115, 114, 47, 46, 46, 47, 115, 104])).1) v16) F18]) _  (Laid.below hT hm23.below) ) (fun vv30 w25 hR31 hb32 hm26 => ?_))
  obtain ⟨v27, rfl, hg33⟩ := hR31
  obtain ⟨F29, hm34⟩ : ∃ F29, Mm none (fun _ => True) w w25 [.see (Rs eS 1 ((parts_m ([117, 115, 114, 47, 98, 105, 110, 47, 115, 104])).1) v5) F7, .see (Rs eS 1 ((parts_m ([117, 115, 114, 47, 46, 46, 47, 115, 104])).1) v16) F18, .see (Rs eS 1 ((parts_m ([47, 117, 115, 114])).1) v27) F29] := Mm.tookS hm23 hb32 hg33
  clear hm26 hg33 hb32
  simp only [nz1, nz2, nz3]
  refine lvw 15 (.tuple #[v27, .int .i64 ((parts_m ([47, 117, 115, 114])).2)]) rfl rfl (run_mv rfl rfl) ?_
  simp only [nz1, nz2, nz3]
  refine lvw 17 (v27) rfl rfl (run_ex rfl rfl rfl) ?_
  simp only [nz1, nz2, nz3]
  refine lvw 18 (.int .i64 ((parts_m ([47, 117, 115, 114])).2)) rfl rfl (run_ex rfl rfl rfl) ?_
  simp only [nz1, nz2, nz3]
  refine lvw 5 (v27) rfl rfl (run_as rfl rfl) ?_
  simp only [nz1, nz2, nz3]
  refine lvw 6 (.int .i64 ((parts_m ([47, 117, 115, 114])).2)) rfl rfl (run_as rfl rfl) ?_
  simp only [nz1, nz2, nz3]
  refine wpList_nil ?_
  refine then_n (hK24 _ _ ?_)
  refine wp_seq_k (fun K35 hK35 => ?_)
  refine wp_region_lit ?_
  refine lvw 19 (.int .i64 ((parts_m ([117, 115, 114, 47, 98, 105, 110, 47, 115, 104])).2)) rfl rfl (run_mv rfl rfl) ?_
  simp only [nz1, nz2, nz3]
  refine lvb 20 ((parts_m ([117, 115, 114, 47, 98, 105, 110, 47, 115, 104])).2 = 0) rfl rfl (z_eql ((parts_m ([117, 115, 114, 47, 98, 105, 110, 47, 115, 104])).2) 0 rfl rfl rfl) (fun hs36 => ?_) (fun hs36 => ?_)
  rotate_left
  · simp only [nz1, nz2, nz3]
    refine lvw 21 (.bool false) rfl rfl (run_mv rfl rfl) ?_
    simp only [nz1, nz2, nz3]
    refine lst_skip 22 rfl rfl ?_
    simp only [nz1, nz2, nz3]
    refine lst_skip 23 rfl rfl ?_
    simp only [nz1, nz2, nz3]
    refine lst_skip 24 rfl rfl ?_
    simp only [nz1, nz2, nz3]
    refine lvw 25 (.bool false) rfl rfl (run_pickf rfl rfl rfl) ?_
    simp only [nz1, nz2, nz3]
    refine lvw 26 (.bool false) rfl rfl (run_mv rfl rfl) ?_
    simp only [nz1, nz2, nz3]
    refine lst_skip 27 rfl rfl ?_
    simp only [nz1, nz2, nz3]
    refine lst_skip 28 rfl rfl ?_
    simp only [nz1, nz2, nz3]
    refine lvw 29 (.bool false) rfl rfl (run_pickf rfl rfl rfl) ?_
    simp only [nz1, nz2, nz3]
    refine lvw 30 (.bool false) rfl rfl (run_mv rfl rfl) ?_
    simp only [nz1, nz2, nz3]
    refine lst_skip 31 rfl rfl ?_
    simp only [nz1, nz2, nz3]
    refine lst_skip 32 rfl rfl ?_
    simp only [nz1, nz2, nz3]
    refine lvw 33 (.bool false) rfl rfl (run_pickf rfl rfl rfl) ?_
    simp only [nz1, nz2, nz3]
    refine lvw 34 (.bool false) rfl rfl (run_mv rfl rfl) ?_
    simp only [nz1, nz2, nz3]
    refine lst_skip 35 rfl rfl ?_
    simp only [nz1, nz2, nz3]
    refine lst_skip 36 rfl rfl ?_
    simp only [nz1, nz2, nz3]
    refine lvw 37 (.bool false) rfl rfl (run_pickf rfl rfl rfl) ?_
    simp only [nz1, nz2, nz3]
    refine lvw 38 (.bool false) rfl rfl (run_mv rfl rfl) ?_
    simp only [nz1, nz2, nz3]
    refine lst_skip 39 rfl rfl ?_
    simp only [nz1, nz2, nz3]
    refine lvw 40 (.bool false) rfl rfl (run_pickf rfl rfl rfl) ?_
    simp only [nz1, nz2, nz3]
    refine lvw 41 (.bool false) rfl rfl (run_mv rfl rfl) ?_
    simp only [nz1, nz2, nz3]
    refine lst_skip 42 rfl rfl ?_
    simp only [nz1, nz2, nz3]
    refine lst_skip 43 rfl rfl ?_
    simp only [nz1, nz2, nz3]
    refine lvw 44 (.bool false) rfl rfl (run_pickf rfl rfl rfl) ?_
    simp only [nz1, nz2, nz3]
    refine lvw 45 (.bool false) rfl rfl (run_mv rfl rfl) ?_
    simp only [nz1, nz2, nz3]
    refine lst_skip 46 rfl rfl ?_
    simp only [nz1, nz2, nz3]
    refine lst_skip 47 rfl rfl ?_
    simp only [nz1, nz2, nz3]
    refine lvw 48 (.bool false) rfl rfl (run_pickf rfl rfl rfl) ?_
    simp only [nz1, nz2, nz3]
    refine lvw 49 (.bool false) rfl rfl (run_mv rfl rfl) ?_
    simp only [nz1, nz2, nz3]
    refine lst_skip 50 rfl rfl ?_
    simp only [nz1, nz2, nz3]
    refine lvw 51 (.bool false) rfl rfl (run_pickf rfl rfl rfl) ?_
    simp only [nz1, nz2, nz3]
    refine lvw 0 (.bool false) rfl rfl (run_as rfl rfl) ?_
    simp only [nz1, nz2]
    refine wpList_nil ?_
    refine then_n (hK35 _ _ ?_)
    refine wp_ret ?_
    have he62 : awake_m = false := (show awake_m = false from by unfold awake_m; rw [if_neg hs36] <;> rfl)
    exact ⟨rfl, .bool false, res_t rfl rfl, ⟨by rw [he62], hm34.below⟩⟩
  simp only [nz1, nz2, nz3]
  refine lvw 21 (.bool true) rfl rfl (run_mv rfl rfl) ?_
  simp only [nz1, nz2, nz3]
  refine lvw 22 (v5) rfl rfl (run_mv rfl rfl) ?_
  simp only [nz1, nz2, nz3]
  refine lvw 23 (.int .i64 ((((parts_m ([117, 115, 114, 47, 98, 105, 110, 47, 115, 104])).1).length : Nat) : Int)) rfl rfl (s_len ((hm34.see 0 rfl)) rfl Tryd.underlying22 rfl) ?_
  simp only [nz1, nz2, nz3]
  refine lvb 24 (((parts_m ([117, 115, 114, 47, 98, 105, 110, 47, 115, 104])).1).length = 3) rfl rfl (r_eql (((parts_m ([117, 115, 114, 47, 98, 105, 110, 47, 115, 104])).1).length) 3 rfl rfl rfl) (fun hs37 => ?_) (fun hs37 => ?_)
  rotate_left
  · simp only [nz1, nz2, nz3]
    refine lvw 25 (.bool false) rfl rfl (run_pick rfl rfl rfl) ?_
    simp only [nz1, nz2, nz3]
    refine lvw 26 (.bool false) rfl rfl (run_mv rfl rfl) ?_
    simp only [nz1, nz2, nz3]
    refine lst_skip 27 rfl rfl ?_
    simp only [nz1, nz2, nz3]
    refine lst_skip 28 rfl rfl ?_
    simp only [nz1, nz2, nz3]
    refine lvw 29 (.bool false) rfl rfl (run_pickf rfl rfl rfl) ?_
    simp only [nz1, nz2, nz3]
    refine lvw 30 (.bool false) rfl rfl (run_mv rfl rfl) ?_
    simp only [nz1, nz2, nz3]
    refine lst_skip 31 rfl rfl ?_
    simp only [nz1, nz2, nz3]
    refine lst_skip 32 rfl rfl ?_
    simp only [nz1, nz2, nz3]
    refine lvw 33 (.bool false) rfl rfl (run_pickf rfl rfl rfl) ?_
    simp only [nz1, nz2, nz3]
    refine lvw 34 (.bool false) rfl rfl (run_mv rfl rfl) ?_
    simp only [nz1, nz2, nz3]
    refine lst_skip 35 rfl rfl ?_
    simp only [nz1, nz2, nz3]
    refine lst_skip 36 rfl rfl ?_
    simp only [nz1, nz2, nz3]
    refine lvw 37 (.bool false) rfl rfl (run_pickf rfl rfl rfl) ?_
    simp only [nz1, nz2, nz3]
    refine lvw 38 (.bool false) rfl rfl (run_mv rfl rfl) ?_
    simp only [nz1, nz2, nz3]
    refine lst_skip 39 rfl rfl ?_
    simp only [nz1, nz2, nz3]
    refine lvw 40 (.bool false) rfl rfl (run_pickf rfl rfl rfl) ?_
    simp only [nz1, nz2, nz3]
    refine lvw 41 (.bool false) rfl rfl (run_mv rfl rfl) ?_
    simp only [nz1, nz2, nz3]
    refine lst_skip 42 rfl rfl ?_
    simp only [nz1, nz2, nz3]
    refine lst_skip 43 rfl rfl ?_
    simp only [nz1, nz2, nz3]
    refine lvw 44 (.bool false) rfl rfl (run_pickf rfl rfl rfl) ?_
    simp only [nz1, nz2, nz3]
    refine lvw 45 (.bool false) rfl rfl (run_mv rfl rfl) ?_
    simp only [nz1, nz2, nz3]
    refine lst_skip 46 rfl rfl ?_
    simp only [nz1, nz2, nz3]
    refine lst_skip 47 rfl rfl ?_
    simp only [nz1, nz2, nz3]
    refine lvw 48 (.bool false) rfl rfl (run_pickf rfl rfl rfl) ?_
    simp only [nz1, nz2, nz3]
    refine lvw 49 (.bool false) rfl rfl (run_mv rfl rfl) ?_
    simp only [nz1, nz2, nz3]
    refine lst_skip 50 rfl rfl ?_
    simp only [nz1, nz2, nz3]
    refine lvw 51 (.bool false) rfl rfl (run_pickf rfl rfl rfl) ?_
    simp only [nz1, nz2, nz3]
    refine lvw 0 (.bool false) rfl rfl (run_as rfl rfl) ?_
    simp only [nz1, nz2]
    refine wpList_nil ?_
    refine then_n (hK35 _ _ ?_)
    refine wp_ret ?_
    have he61 : awake_m = false := (show awake_m = false from by unfold awake_m; rw [if_pos hs36, if_neg hs37] <;> rfl)
    exact ⟨rfl, .bool false, res_t rfl rfl, ⟨by rw [he61], hm34.below⟩⟩
  simp only [nz1, nz2, nz3]
  refine lvw 25 (.bool true) rfl rfl (run_pick rfl rfl rfl) ?_
  simp only [nz1, nz2, nz3]
  refine lvw 26 (.bool true) rfl rfl (run_mv rfl rfl) ?_
  simp only [nz1, nz2, nz3]
  refine lvw 27 (.int .i64 ((parts_m ([117, 115, 114, 47, 46, 46, 47, 115, 104])).2)) rfl rfl (run_mv rfl rfl) ?_
  simp only [nz1, nz2, nz3]
  refine lvb 28 ((parts_m ([117, 115, 114, 47, 46, 46, 47, 115, 104])).2 = 4) rfl rfl (z_eql ((parts_m ([117, 115, 114, 47, 46, 46, 47, 115, 104])).2) 4 rfl rfl rfl) (fun hs38 => ?_) (fun hs38 => ?_)
  rotate_left
  · simp only [nz1, nz2, nz3]
    refine lvw 29 (.bool false) rfl rfl (run_pick rfl rfl rfl) ?_
    simp only [nz1, nz2, nz3]
    refine lvw 30 (.bool false) rfl rfl (run_mv rfl rfl) ?_
    simp only [nz1, nz2, nz3]
    refine lst_skip 31 rfl rfl ?_
    simp only [nz1, nz2, nz3]
    refine lst_skip 32 rfl rfl ?_
    simp only [nz1, nz2, nz3]
    refine lvw 33 (.bool false) rfl rfl (run_pickf rfl rfl rfl) ?_
    simp only [nz1, nz2, nz3]
    refine lvw 34 (.bool false) rfl rfl (run_mv rfl rfl) ?_
    simp only [nz1, nz2, nz3]
    refine lst_skip 35 rfl rfl ?_
    simp only [nz1, nz2, nz3]
    refine lst_skip 36 rfl rfl ?_
    simp only [nz1, nz2, nz3]
    refine lvw 37 (.bool false) rfl rfl (run_pickf rfl rfl rfl) ?_
    simp only [nz1, nz2, nz3]
    refine lvw 38 (.bool false) rfl rfl (run_mv rfl rfl) ?_
    simp only [nz1, nz2, nz3]
    refine lst_skip 39 rfl rfl ?_
    simp only [nz1, nz2, nz3]
    refine lvw 40 (.bool false) rfl rfl (run_pickf rfl rfl rfl) ?_
    simp only [nz1, nz2, nz3]
    refine lvw 41 (.bool false) rfl rfl (run_mv rfl rfl) ?_
    simp only [nz1, nz2, nz3]
    refine lst_skip 42 rfl rfl ?_
    simp only [nz1, nz2, nz3]
    refine lst_skip 43 rfl rfl ?_
    simp only [nz1, nz2, nz3]
    refine lvw 44 (.bool false) rfl rfl (run_pickf rfl rfl rfl) ?_
    simp only [nz1, nz2, nz3]
    refine lvw 45 (.bool false) rfl rfl (run_mv rfl rfl) ?_
    simp only [nz1, nz2, nz3]
    refine lst_skip 46 rfl rfl ?_
    simp only [nz1, nz2, nz3]
    refine lst_skip 47 rfl rfl ?_
    simp only [nz1, nz2, nz3]
    refine lvw 48 (.bool false) rfl rfl (run_pickf rfl rfl rfl) ?_
    simp only [nz1, nz2, nz3]
    refine lvw 49 (.bool false) rfl rfl (run_mv rfl rfl) ?_
    simp only [nz1, nz2, nz3]
    refine lst_skip 50 rfl rfl ?_
    simp only [nz1, nz2, nz3]
    refine lvw 51 (.bool false) rfl rfl (run_pickf rfl rfl rfl) ?_
    simp only [nz1, nz2, nz3]
    refine lvw 0 (.bool false) rfl rfl (run_as rfl rfl) ?_
    simp only [nz1, nz2]
    refine wpList_nil ?_
    refine then_n (hK35 _ _ ?_)
    refine wp_ret ?_
    have he60 : awake_m = false := (show awake_m = false from by unfold awake_m; rw [if_pos hs36, if_pos hs37, if_neg hs38] <;> rfl)
    exact ⟨rfl, .bool false, res_t rfl rfl, ⟨by rw [he60], hm34.below⟩⟩
  simp only [nz1, nz2, nz3]
  refine lvw 29 (.bool true) rfl rfl (run_pick rfl rfl rfl) ?_
  simp only [nz1, nz2, nz3]
  refine lvw 30 (.bool true) rfl rfl (run_mv rfl rfl) ?_
  simp only [nz1, nz2, nz3]
  refine lvw 31 (.int .i64 ((parts_m ([47, 117, 115, 114])).2)) rfl rfl (run_mv rfl rfl) ?_
  simp only [nz1, nz2, nz3]
  refine lvb 32 ((parts_m ([47, 117, 115, 114])).2 = 4) rfl rfl (z_eql ((parts_m ([47, 117, 115, 114])).2) 4 rfl rfl rfl) (fun hs39 => ?_) (fun hs39 => ?_)
  rotate_left
  · simp only [nz1, nz2, nz3]
    refine lvw 33 (.bool false) rfl rfl (run_pick rfl rfl rfl) ?_
    simp only [nz1, nz2, nz3]
    refine lvw 34 (.bool false) rfl rfl (run_mv rfl rfl) ?_
    simp only [nz1, nz2, nz3]
    refine lst_skip 35 rfl rfl ?_
    simp only [nz1, nz2, nz3]
    refine lst_skip 36 rfl rfl ?_
    simp only [nz1, nz2, nz3]
    refine lvw 37 (.bool false) rfl rfl (run_pickf rfl rfl rfl) ?_
    simp only [nz1, nz2, nz3]
    refine lvw 38 (.bool false) rfl rfl (run_mv rfl rfl) ?_
    simp only [nz1, nz2, nz3]
    refine lst_skip 39 rfl rfl ?_
    simp only [nz1, nz2, nz3]
    refine lvw 40 (.bool false) rfl rfl (run_pickf rfl rfl rfl) ?_
    simp only [nz1, nz2, nz3]
    refine lvw 41 (.bool false) rfl rfl (run_mv rfl rfl) ?_
    simp only [nz1, nz2, nz3]
    refine lst_skip 42 rfl rfl ?_
    simp only [nz1, nz2, nz3]
    refine lst_skip 43 rfl rfl ?_
    simp only [nz1, nz2, nz3]
    refine lvw 44 (.bool false) rfl rfl (run_pickf rfl rfl rfl) ?_
    simp only [nz1, nz2, nz3]
    refine lvw 45 (.bool false) rfl rfl (run_mv rfl rfl) ?_
    simp only [nz1, nz2, nz3]
    refine lst_skip 46 rfl rfl ?_
    simp only [nz1, nz2, nz3]
    refine lst_skip 47 rfl rfl ?_
    simp only [nz1, nz2, nz3]
    refine lvw 48 (.bool false) rfl rfl (run_pickf rfl rfl rfl) ?_
    simp only [nz1, nz2, nz3]
    refine lvw 49 (.bool false) rfl rfl (run_mv rfl rfl) ?_
    simp only [nz1, nz2, nz3]
    refine lst_skip 50 rfl rfl ?_
    simp only [nz1, nz2, nz3]
    refine lvw 51 (.bool false) rfl rfl (run_pickf rfl rfl rfl) ?_
    simp only [nz1, nz2, nz3]
    refine lvw 0 (.bool false) rfl rfl (run_as rfl rfl) ?_
    simp only [nz1, nz2]
    refine wpList_nil ?_
    refine then_n (hK35 _ _ ?_)
    refine wp_ret ?_
    have he59 : awake_m = false := (show awake_m = false from by unfold awake_m; rw [if_pos hs36, if_pos hs37, if_pos hs38, if_neg hs39] <;> rfl)
    exact ⟨rfl, .bool false, res_t rfl rfl, ⟨by rw [he59], hm34.below⟩⟩
  simp only [nz1, nz2, nz3]
  refine lvw 33 (.bool true) rfl rfl (run_pick rfl rfl rfl) ?_
  simp only [nz1, nz2, nz3]
  refine lvw 34 (.bool true) rfl rfl (run_mv rfl rfl) ?_
  simp only [nz1, nz2, nz3]
  refine lst rfl (m_call hm34 35 (.string (tx (parent_m ([117, 115, 114, 47, 98, 105, 110])))) rfl (run_parent rfl rfl) (parent_any ([117, 115, 114, 47, 98, 105, 110])  _  (by first | omega | assumption | decide | (simp; done) | (simp; omega))) (fun w40 (hm41 : Mm none (fun _ => True) w w40 [.see (Rs eS 1 ((parts_m ([117, 115, 114, 47, 98, 105, 110, 47, 115, 104])).1) v5) F7, .see (Rs eS 1 ((parts_m ([117, 115, 114, 47, 46, 46, 47, 115, 104])).1) v16) F18, .see (Rs eS 1 ((parts_m ([47, 117, 115, 114])).1) v27) F29]) => ?_))
  simp only [nz1, nz2, nz3]
  refine lvb 36 ((parent_m ([117, 115, 114, 47, 98, 105, 110])) = [117, 115, 114]) rfl rfl (t_eql (parent_m ([117, 115, 114, 47, 98, 105, 110])) ([117, 115, 114]) rfl rfl rfl) (fun hs42 => ?_) (fun hs42 => ?_)
  rotate_left
  · simp only [nz1, nz2, nz3]
    refine lvw 37 (.bool false) rfl rfl (run_pick rfl rfl rfl) ?_
    simp only [nz1, nz2, nz3]
    refine lvw 38 (.bool false) rfl rfl (run_mv rfl rfl) ?_
    simp only [nz1, nz2, nz3]
    refine lst_skip 39 rfl rfl ?_
    simp only [nz1, nz2, nz3]
    refine lvw 40 (.bool false) rfl rfl (run_pickf rfl rfl rfl) ?_
    simp only [nz1, nz2, nz3]
    refine lvw 41 (.bool false) rfl rfl (run_mv rfl rfl) ?_
    simp only [nz1, nz2, nz3]
    refine lst_skip 42 rfl rfl ?_
    simp only [nz1, nz2, nz3]
    refine lst_skip 43 rfl rfl ?_
    simp only [nz1, nz2, nz3]
    refine lvw 44 (.bool false) rfl rfl (run_pickf rfl rfl rfl) ?_
    simp only [nz1, nz2, nz3]
    refine lvw 45 (.bool false) rfl rfl (run_mv rfl rfl) ?_
    simp only [nz1, nz2, nz3]
    refine lst_skip 46 rfl rfl ?_
    simp only [nz1, nz2, nz3]
    refine lst_skip 47 rfl rfl ?_
    simp only [nz1, nz2, nz3]
    refine lvw 48 (.bool false) rfl rfl (run_pickf rfl rfl rfl) ?_
    simp only [nz1, nz2, nz3]
    refine lvw 49 (.bool false) rfl rfl (run_mv rfl rfl) ?_
    simp only [nz1, nz2, nz3]
    refine lst_skip 50 rfl rfl ?_
    simp only [nz1, nz2, nz3]
    refine lvw 51 (.bool false) rfl rfl (run_pickf rfl rfl rfl) ?_
    simp only [nz1, nz2, nz3]
    refine lvw 0 (.bool false) rfl rfl (run_as rfl rfl) ?_
    simp only [nz1, nz2]
    refine wpList_nil ?_
    refine then_n (hK35 _ _ ?_)
    refine wp_ret ?_
    have he58 : awake_m = false := (show awake_m = false from by unfold awake_m; rw [if_pos hs36, if_pos hs37, if_pos hs38, if_pos hs39, if_neg hs42] <;> rfl)
    exact ⟨rfl, .bool false, res_t rfl rfl, ⟨by rw [he58], hm41.below⟩⟩
  simp only [nz1, nz2, nz3]
  refine lvw 37 (.bool true) rfl rfl (run_pick rfl rfl rfl) ?_
  simp only [nz1, nz2, nz3]
  refine lvw 38 (.bool true) rfl rfl (run_mv rfl rfl) ?_
  simp only [nz1, nz2, nz3]
  refine lst rfl (m_call hm41 39 (.bool ((part_m ([195, 164, 46, 116, 120, 116])))) rfl (run_part rfl rfl) (part_any ([195, 164, 46, 116, 120, 116])  _  (Laid.below hT hm41.below) ) (fun w43 (hm44 : Mm none (fun _ => True) w w43 [.see (Rs eS 1 ((parts_m ([117, 115, 114, 47, 98, 105, 110, 47, 115, 104])).1) v5) F7, .see (Rs eS 1 ((parts_m ([117, 115, 114, 47, 46, 46, 47, 115, 104])).1) v16) F18, .see (Rs eS 1 ((parts_m ([47, 117, 115, 114])).1) v27) F29]) => ?_))
  simp only [nz1, nz2, nz3]
  by_cases hs45 : (part_m ([195, 164, 46, 116, 120, 116])) = true
  rotate_left
  · rw [(Bool.eq_false_iff.2 hs45 : (part_m ([195, 164, 46, 116, 120, 116])) = false)]
    refine lvw 40 (.bool false) rfl rfl (run_pick rfl rfl rfl) ?_
    simp only [nz1, nz2, nz3]
    refine lvw 41 (.bool false) rfl rfl (run_mv rfl rfl) ?_
    simp only [nz1, nz2, nz3]
    refine lst_skip 42 rfl rfl ?_
    simp only [nz1, nz2, nz3]
    refine lst_skip 43 rfl rfl ?_
    simp only [nz1, nz2, nz3]
    refine lvw 44 (.bool false) rfl rfl (run_pickf rfl rfl rfl) ?_
    simp only [nz1, nz2, nz3]
    refine lvw 45 (.bool false) rfl rfl (run_mv rfl rfl) ?_
    simp only [nz1, nz2, nz3]
    refine lst_skip 46 rfl rfl ?_
    simp only [nz1, nz2, nz3]
    refine lst_skip 47 rfl rfl ?_
    simp only [nz1, nz2, nz3]
    refine lvw 48 (.bool false) rfl rfl (run_pickf rfl rfl rfl) ?_
    simp only [nz1, nz2, nz3]
    refine lvw 49 (.bool false) rfl rfl (run_mv rfl rfl) ?_
    simp only [nz1, nz2, nz3]
    refine lst_skip 50 rfl rfl ?_
    simp only [nz1, nz2, nz3]
    refine lvw 51 (.bool false) rfl rfl (run_pickf rfl rfl rfl) ?_
    simp only [nz1, nz2, nz3]
    refine lvw 0 (.bool false) rfl rfl (run_as rfl rfl) ?_
    simp only [nz1, nz2]
    refine wpList_nil ?_
    refine then_n (hK35 _ _ ?_)
    refine wp_ret ?_
    have he57 : awake_m = false := (show awake_m = false from by unfold awake_m; rw [if_pos hs36, if_pos hs37, if_pos hs38, if_pos hs39, if_pos hs42, if_neg hs45] <;> rfl)
    exact ⟨rfl, .bool false, res_t rfl rfl, ⟨by rw [he57], hm44.below⟩⟩
  rw [(hs45 : (part_m ([195, 164, 46, 116, 120, 116])) = true)]
  refine lvw 40 (.bool true) rfl rfl (run_pick rfl rfl rfl) ?_
  simp only [nz1, nz2, nz3]
  refine lvw 41 (.bool true) rfl rfl (run_mv rfl rfl) ?_
  simp only [nz1, nz2, nz3]
  refine lst rfl (m_call hm44 42 (.bool ((part_m ([97, 127])))) rfl (run_part rfl rfl) (part_any ([97, 127])  _  (Laid.below hT hm44.below) ) (fun w46 (hm47 : Mm none (fun _ => True) w w46 [.see (Rs eS 1 ((parts_m ([117, 115, 114, 47, 98, 105, 110, 47, 115, 104])).1) v5) F7, .see (Rs eS 1 ((parts_m ([117, 115, 114, 47, 46, 46, 47, 115, 104])).1) v16) F18, .see (Rs eS 1 ((parts_m ([47, 117, 115, 114])).1) v27) F29]) => ?_))
  simp only [nz1, nz2, nz3]
  refine lvB 43 (!(part_m ([97, 127]))) rfl rfl (r_not (part_m ([97, 127])) rfl rfl) (fun hs48 => ?_) (fun hs48 => ?_)
  rotate_left
  · simp only [nz1, nz2, nz3]
    refine lvw 44 (.bool false) rfl rfl (run_pick rfl rfl rfl) ?_
    simp only [nz1, nz2, nz3]
    refine lvw 45 (.bool false) rfl rfl (run_mv rfl rfl) ?_
    simp only [nz1, nz2, nz3]
    refine lst_skip 46 rfl rfl ?_
    simp only [nz1, nz2, nz3]
    refine lst_skip 47 rfl rfl ?_
    simp only [nz1, nz2, nz3]
    refine lvw 48 (.bool false) rfl rfl (run_pickf rfl rfl rfl) ?_
    simp only [nz1, nz2, nz3]
    refine lvw 49 (.bool false) rfl rfl (run_mv rfl rfl) ?_
    simp only [nz1, nz2, nz3]
    refine lst_skip 50 rfl rfl ?_
    simp only [nz1, nz2, nz3]
    refine lvw 51 (.bool false) rfl rfl (run_pickf rfl rfl rfl) ?_
    simp only [nz1, nz2, nz3]
    refine lvw 0 (.bool false) rfl rfl (run_as rfl rfl) ?_
    simp only [nz1, nz2]
    refine wpList_nil ?_
    refine then_n (hK35 _ _ ?_)
    refine wp_ret ?_
    have he56 : awake_m = false := (show awake_m = false from by unfold awake_m; rw [if_pos hs36, if_pos hs37, if_pos hs38, if_pos hs39, if_pos hs42, if_pos hs45, if_neg hs48] <;> rfl)
    exact ⟨rfl, .bool false, res_t rfl rfl, ⟨by rw [he56], hm47.below⟩⟩
  simp only [nz1, nz2, nz3]
  refine lvw 44 (.bool true) rfl rfl (run_pick rfl rfl rfl) ?_
  simp only [nz1, nz2, nz3]
  refine lvw 45 (.bool true) rfl rfl (run_mv rfl rfl) ?_
  simp only [nz1, nz2, nz3]
  refine lst rfl (m_call hm47 46 (.bool ((part_m ([97, 255])))) rfl (run_part rfl rfl) (part_any ([97, 255])  _  (Laid.below hT hm47.below) ) (fun w49 (hm50 : Mm none (fun _ => True) w w49 [.see (Rs eS 1 ((parts_m ([117, 115, 114, 47, 98, 105, 110, 47, 115, 104])).1) v5) F7, .see (Rs eS 1 ((parts_m ([117, 115, 114, 47, 46, 46, 47, 115, 104])).1) v16) F18, .see (Rs eS 1 ((parts_m ([47, 117, 115, 114])).1) v27) F29]) => ?_))
  simp only [nz1, nz2, nz3]
  refine lvB 47 (!(part_m ([97, 255]))) rfl rfl (r_not (part_m ([97, 255])) rfl rfl) (fun hs51 => ?_) (fun hs51 => ?_)
  · simp only [nz1, nz2, nz3]
    refine lvw 48 (.bool true) rfl rfl (run_pick rfl rfl rfl) ?_
    simp only [nz1, nz2, nz3]
    refine lvw 49 (.bool true) rfl rfl (run_mv rfl rfl) ?_
    simp only [nz1, nz2, nz3]
    refine lst rfl (m_call hm50 50 (.bool ((reserved_m ([46, 104, 111, 108, 100, 97, 108, 108, 47, 120])))) rfl (run_reserved rfl rfl) (reserved_any ([46, 104, 111, 108, 100, 97, 108, 108, 47, 120])  _  (Laid.below hT hm50.below) (by first | omega | assumption | decide | (simp; done) | (simp; omega))) (fun w52 (hm53 : Mm none (fun _ => True) w w52 [.see (Rs eS 1 ((parts_m ([117, 115, 114, 47, 98, 105, 110, 47, 115, 104])).1) v5) F7, .see (Rs eS 1 ((parts_m ([117, 115, 114, 47, 46, 46, 47, 115, 104])).1) v16) F18, .see (Rs eS 1 ((parts_m ([47, 117, 115, 114])).1) v27) F29]) => ?_))
    simp only [nz1, nz2, nz3]
    refine lvw 51 (.bool ((reserved_m ([46, 104, 111, 108, 100, 97, 108, 108, 47, 120])))) rfl rfl (run_pick rfl rfl rfl) ?_
    simp only [nz1, nz2, nz3]
    refine lvw 0 (.bool ((reserved_m ([46, 104, 111, 108, 100, 97, 108, 108, 47, 120])))) rfl rfl (run_as rfl rfl) ?_
    simp only [nz1, nz2]
    refine wpList_nil ?_
    refine then_n (hK35 _ _ ?_)
    refine wp_ret ?_
    have he54 : awake_m = (reserved_m ([46, 104, 111, 108, 100, 97, 108, 108, 47, 120])) := (show awake_m = (reserved_m ([46, 104, 111, 108, 100, 97, 108, 108, 47, 120])) from by unfold awake_m; rw [if_pos hs36, if_pos hs37, if_pos hs38, if_pos hs39, if_pos hs42, if_pos hs45, if_pos hs48, if_pos hs51] <;> rfl)
    exact ⟨rfl, .bool ((reserved_m ([46, 104, 111, 108, 100, 97, 108, 108, 47, 120]))), res_t rfl rfl, ⟨by rw [he54], hm53.below⟩⟩
  simp only [nz1, nz2, nz3]
  refine lvw 48 (.bool false) rfl rfl (run_pick rfl rfl rfl) ?_
  simp only [nz1, nz2, nz3]
  refine lvw 49 (.bool false) rfl rfl (run_mv rfl rfl) ?_
  simp only [nz1, nz2, nz3]
  refine lst_skip 50 rfl rfl ?_
  simp only [nz1, nz2, nz3]
  refine lvw 51 (.bool false) rfl rfl (run_pickf rfl rfl rfl) ?_
  simp only [nz1, nz2, nz3]
  refine lvw 0 (.bool false) rfl rfl (run_as rfl rfl) ?_
  simp only [nz1, nz2]
  refine wpList_nil ?_
  refine then_n (hK35 _ _ ?_)
  refine wp_ret ?_
  have he55 : awake_m = false := (show awake_m = false from by unfold awake_m; rw [if_pos hs36, if_pos hs37, if_pos hs38, if_pos hs39, if_pos hs42, if_pos hs45, if_pos hs48, if_neg hs51] <;> rfl)
  exact ⟨rfl, .bool false, res_t rfl rfl, ⟨by rw [he55], hm50.below⟩⟩
theorem run_awake {o : Oper} {a : Act} {w : World} (ho : o.op = .call { callee := .value (.func 17), args := #[], argTypes := #[] })  :
    (execOp a.eval o).run Tryd.prog w = .ok (.enter 17 #[]) w := by
  unfold execOp
  simp only [ho]
  have hf : a.eval (.func 17) = .func (.func 17) #[] #[] := rfl
  generalize a.eval = f at *
  go_simp
end Go.Proofs.YtdohmmdfenafnaaDoor.Pa
