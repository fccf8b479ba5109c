/- Layer 10: the example, what is great, what is the same. -/
import Derived.Test.YtglnifckngcpkaaDoorPxC
namespace Go.Proofs.YtglnifckngcpkaaDoor.Px
open Go.RowKit
open Go.Proofs.YtglnifckngcpkaaDoor.Sym Go.Proofs.YtglnifckngcpkaaDoor.Mem
open Go.Proofs.YtglnifckngcpkaaDoor.Sx hiding Mm m_alloc m_store m_put m_call m_callx m_make m_append r_string r_ixS
set_option linter.unusedVariables false
attribute [local irreducible] plen_m itoa_m atoi_v atoi_ok cut_m key_m pdig_m ib_m record_m first_m
attribute [local irreducible] wpList Oper.wp

def pawake_m : Bool :=
  if (encode_m ([(Par.mk ([112, 97, 116, 104]) ([97])), (Par.mk ([107]) ([49, 50, 51, 52, 53]))] : List Par)).2 = 0 then
    if (encode_m ([(Par.mk ([112, 97, 116, 104]) ([97])), (Par.mk ([107]) ([49, 50, 51, 52, 53]))] : List Par)).1 = [57, 32, 112, 97, 116, 104, 61, 97, 10, 49, 49, 32, 107, 61, 49, 50, 51, 52, 53, 10] then
      if (decode_m ((encode_m ([(Par.mk ([112, 97, 116, 104]) ([97])), (Par.mk ([107]) ([49, 50, 51, 52, 53]))] : List Par)).1)).2 = 0 then
        (decide (((decode_m ((encode_m ([(Par.mk ([112, 97, 116, 104]) ([97])), (Par.mk ([107]) ([49, 50, 51, 52, 53]))] : List Par)).1)).1).length = 2))
      else
        false
    else
      false
  else
    false

set_option maxHeartbeats 4000000 in
set_option maxRecDepth 100000 in
theorem pawake_any (w : World)  (hT : Laid w)  : Calls Tryd.prog 24 #[] w (fun e w' => e = .returned (.bool (pawake_m)) ∧ Below w.heap.size w w') := by
  go_enter Tryd.func24, Tryd.ntmps24
  have hm00 := Mm.nil none (fun _ => True) w
  have hm0 := hm00
  refine wp_seq_k (fun K1 hK1 => ?_)
  refine wp_region_lit ?_
  refine lvw 0 (.bool false) rfl rfl (run_as rfl rfl) ?_
  simp only [nz1, nz2]
  refine wpList_nil ?_
  refine then_n (hK1 _ _ ?_)
  refine wp_seq_k (fun K2 hK2 => ?_)
  refine wp_region_lit ?_
  refine lvw 6 (.agg #[.string (tx ([112, 97, 116, 104])), .string (tx ([97]))]) rfl rfl (by unfold execOp; go_simp; try (first | rfl | (repeat' (first | rfl | apply And.intro)))) ?_
  simp only [nz1, nz2, nz3]
  refine lvw 7 (.agg #[.string (tx ([107])), .string (tx ([49, 50, 51, 52, 53]))]) rfl rfl (by unfold execOp; go_simp; try (first | rfl | (repeat' (first | rfl | apply And.intro)))) ?_
  simp only [nz1, nz2, nz3]
  refine lst rfl (m_make (c := #[.string (tx ([112, 97, 116, 104])), .string (tx ([97])), .string (tx ([107])), .string (tx ([49, 50, 51, 52, 53]))]) (T := 47) (fun g => .slice (some ⟨g, 0, none⟩) 2 2) hm0 8 rfl (by unfold execOp; go_simp; try rfl) (fun g5 w3 (hm4 : Mm none (fun _ => True) w w3 [.blk g5 #[.string (tx ([112, 97, 116, 104])), .string (tx ([97])), .string (tx ([107])), .string (tx ([49, 50, 51, 52, 53]))] 47]) => ?_))
  simp only [nz1, nz2, nz3]
  refine lst rfl (m_call hm4 9 (.tuple #[.string (tx ((encode_m ([(Par.mk ([112, 97, 116, 104]) ([97])), (Par.mk ([107]) ([49, 50, 51, 52, 53]))] : List Par)).1)), .int .i64 ((encode_m ([(Par.mk ([112, 97, 116, 104]) ([97])), (Par.mk ([107]) ([49, 50, 51, 52, 53]))] : List Par)).2)]) rfl (run_encode rfl rfl) (encode_any ([(Par.mk ([112, 97, 116, 104]) ([97])), (Par.mk ([107]) ([49, 50, 51, 52, 53]))] : List Par) (.slice (some ⟨g5, 0, none⟩) 2 2) _ (Rs.blk (l := [(Par.mk ([112, 97, 116, 104]) ([97])), (Par.mk ([107]) ([49, 50, 51, 52, 53]))]) (hm4.at 0 rfl) rfl rfl ePar_len (Nat.le_refl _)) (Laid.below hT hm4.below) (by first | omega | assumption | (simp; done) | (simp; omega) | (simp only [List.length_append, List.length_cons, List.length_nil]; omega) | (simp only [List.length_append, List.length_cons, List.length_nil] at *; omega) | decide)) (fun w6 (hm7 : Mm none (fun _ => True) w w6 [.blk g5 #[.string (tx ([112, 97, 116, 104])), .string (tx ([97])), .string (tx ([107])), .string (tx ([49, 50, 51, 52, 53]))] 47]) => ?_))
  simp only [nz1, nz2, nz3]
  refine lvw 5 (.tuple #[.string (tx ((encode_m ([(Par.mk ([112, 97, 116, 104]) ([97])), (Par.mk ([107]) ([49, 50, 51, 52, 53]))] : List Par)).1)), .int .i64 ((encode_m ([(Par.mk ([112, 97, 116, 104]) ([97])), (Par.mk ([107]) ([49, 50, 51, 52, 53]))] : List Par)).2)]) rfl rfl (run_mv rfl rfl) ?_
  simp only [nz1, nz2, nz3]
  refine lvw 10 (.string (tx ((encode_m ([(Par.mk ([112, 97, 116, 104]) ([97])), (Par.mk ([107]) ([49, 50, 51, 52, 53]))] : List Par)).1))) rfl rfl (run_ex rfl rfl rfl) ?_
  simp only [nz1, nz2, nz3]
  refine lvw 11 (.int .i64 ((encode_m ([(Par.mk ([112, 97, 116, 104]) ([97])), (Par.mk ([107]) ([49, 50, 51, 52, 53]))] : List Par)).2)) rfl rfl (run_ex rfl rfl rfl) ?_
  simp only [nz1, nz2, nz3]
  refine lvw 1 (.string (tx ((encode_m ([(Par.mk ([112, 97, 116, 104]) ([97])), (Par.mk ([107]) ([49, 50, 51, 52, 53]))] : List Par)).1))) rfl rfl (run_as rfl rfl) ?_
  simp only [nz1, nz2, nz3]
  refine lvw 2 (.int .i64 ((encode_m ([(Par.mk ([112, 97, 116, 104]) ([97])), (Par.mk ([107]) ([49, 50, 51, 52, 53]))] : List Par)).2)) rfl rfl (run_as rfl rfl) ?_
  simp only [nz1, nz2, nz3]
  refine wpList_nil ?_
  refine then_n (hK2 _ _ ?_)
  refine wp_seq_k (fun K8 hK8 => ?_)
  refine wp_region_lit ?_
  refine lvw 13 (.string (tx ((encode_m ([(Par.mk ([112, 97, 116, 104]) ([97])), (Par.mk ([107]) ([49, 50, 51, 52, 53]))] : List Par)).1))) rfl rfl (run_mv rfl rfl) ?_
  simp only [nz1, nz2, nz3]
  refine lst rfl (m_callx hm7 14 rfl (run_decode rfl rfl) (decode_any ((encode_m ([(Par.mk ([112, 97, 116, 104]) ([97])), (Par.mk ([107]) ([49, 50, 51, 52, 53]))] : List Par)).1)  (seeS [.blk g5 #[.string (tx ([112, 97, 116, 104])), .string (tx ([97])), .string (tx ([107])), .string (tx ([49, 50, 51, 52, 53]))] 47]) _  (Laid.below hT hm7.below) ) (fun vv14 w9 hR15 hb16 hm10 => ?_))
  obtain ⟨v11, rfl, hg17⟩ := hR15
  obtain ⟨F13, hm18⟩ : ∃ F13, Mm none (fun _ => True) w w9 [.blk g5 #[.string (tx ([112, 97, 116, 104])), .string (tx ([97])), .string (tx ([107])), .string (tx ([49, 50, 51, 52, 53]))] 47, .see (Rs ePar 2 ((decode_m ((encode_m ([(Par.mk ([112, 97, 116, 104]) ([97])), (Par.mk ([107]) ([49, 50, 51, 52, 53]))] : List Par)).1)).1) v11) F13] := Mm.tookS hm7 hb16 hg17
  clear hm10 hg17 hb16
  simp only [nz1, nz2, nz3]
  refine lvw 12 (.tuple #[v11, .int .i64 ((decode_m ((encode_m ([(Par.mk ([112, 97, 116, 104]) ([97])), (Par.mk ([107]) ([49, 50, 51, 52, 53]))] : List Par)).1)).2)]) rfl rfl (run_mv rfl rfl) ?_
  simp only [nz1, nz2, nz3]
  refine lvw 15 (v11) rfl rfl (run_ex rfl rfl rfl) ?_
  simp only [nz1, nz2, nz3]
  refine lvw 16 (.int .i64 ((decode_m ((encode_m ([(Par.mk ([112, 97, 116, 104]) ([97])), (Par.mk ([107]) ([49, 50, 51, 52, 53]))] : List Par)).1)).2)) rfl rfl (run_ex rfl rfl rfl) ?_
  simp only [nz1, nz2, nz3]
  refine lvw 3 (v11) rfl rfl (run_as rfl rfl) ?_
  simp only [nz1, nz2, nz3]
  refine lvw 4 (.int .i64 ((decode_m ((encode_m ([(Par.mk ([112, 97, 116, 104]) ([97])), (Par.mk ([107]) ([49, 50, 51, 52, 53]))] : List Par)).1)).2)) rfl rfl (run_as rfl rfl) ?_
  simp only [nz1, nz2, nz3]
  refine wpList_nil ?_
  refine then_n (hK8 _ _ ?_)
  refine wp_seq_k (fun K19 hK19 => ?_)
  refine wp_region_lit ?_
  refine lvw 17 (.int .i64 ((encode_m ([(Par.mk ([112, 97, 116, 104]) ([97])), (Par.mk ([107]) ([49, 50, 51, 52, 53]))] : List Par)).2)) rfl rfl (run_mv rfl rfl) ?_
  simp only [nz1, nz2, nz3]
  refine lvb 18 ((encode_m ([(Par.mk ([112, 97, 116, 104]) ([97])), (Par.mk ([107]) ([49, 50, 51, 52, 53]))] : List Par)).2 = 0) rfl rfl (z_eql ((encode_m ([(Par.mk ([112, 97, 116, 104]) ([97])), (Par.mk ([107]) ([49, 50, 51, 52, 53]))] : List Par)).2) 0 rfl rfl rfl) (fun hs20 => ?_) (fun hs20 => ?_)
  rotate_left
  · simp only [nz1, nz2, nz3]
    refine lvw 19 (.bool false) rfl rfl (run_mv rfl rfl) ?_
    simp only [nz1, nz2, nz3]
    refine lst_skip 20 rfl rfl ?_
    simp only [nz1, nz2, nz3]
    refine lst_skip 21 rfl rfl ?_
    simp only [nz1, nz2, nz3]
    refine lvw 22 (.bool false) rfl rfl (run_pickf rfl rfl rfl) ?_
    simp only [nz1, nz2, nz3]
    refine lvw 23 (.bool false) rfl rfl (run_mv rfl rfl) ?_
    simp only [nz1, nz2, nz3]
    refine lst_skip 24 rfl rfl ?_
    simp only [nz1, nz2, nz3]
    refine lst_skip 25 rfl rfl ?_
    simp only [nz1, nz2, nz3]
    refine lvw 26 (.bool false) rfl rfl (run_pickf rfl rfl rfl) ?_
    simp only [nz1, nz2, nz3]
    refine lvw 27 (.bool false) rfl rfl (run_mv rfl rfl) ?_
    simp only [nz1, nz2, nz3]
    refine lst_skip 28 rfl rfl ?_
    simp only [nz1, nz2, nz3]
    refine lst_skip 29 rfl rfl ?_
    simp only [nz1, nz2, nz3]
    refine lst_skip 30 rfl rfl ?_
    simp only [nz1, nz2, nz3]
    refine lvw 31 (.bool false) rfl rfl (run_pickf rfl rfl rfl) ?_
    simp only [nz1, nz2, nz3]
    refine lvw 0 (.bool false) rfl rfl (run_as rfl rfl) ?_
    simp only [nz1, nz2]
    refine wpList_nil ?_
    refine then_n (hK19 _ _ ?_)
    refine wp_ret ?_
    have he26 : pawake_m = false := (show pawake_m = false from by unfold pawake_m; rw [if_neg hs20] <;> rfl)
    exact ⟨rfl, .bool false, res_t rfl rfl, ⟨by rw [he26], hm18.below⟩⟩
  simp only [nz1, nz2, nz3]
  refine lvw 19 (.bool true) rfl rfl (run_mv rfl rfl) ?_
  simp only [nz1, nz2, nz3]
  refine lvw 20 (.string (tx ((encode_m ([(Par.mk ([112, 97, 116, 104]) ([97])), (Par.mk ([107]) ([49, 50, 51, 52, 53]))] : List Par)).1))) rfl rfl (run_mv rfl rfl) ?_
  simp only [nz1, nz2, nz3]
  refine lvb 21 ((encode_m ([(Par.mk ([112, 97, 116, 104]) ([97])), (Par.mk ([107]) ([49, 50, 51, 52, 53]))] : List Par)).1 = [57, 32, 112, 97, 116, 104, 61, 97, 10, 49, 49, 32, 107, 61, 49, 50, 51, 52, 53, 10]) rfl rfl (t_eql ((encode_m ([(Par.mk ([112, 97, 116, 104]) ([97])), (Par.mk ([107]) ([49, 50, 51, 52, 53]))] : List Par)).1) ([57, 32, 112, 97, 116, 104, 61, 97, 10, 49, 49, 32, 107, 61, 49, 50, 51, 52, 53, 10]) rfl rfl rfl) (fun hs21 => ?_) (fun hs21 => ?_)
  rotate_left
  · simp only [nz1, nz2, nz3]
    refine lvw 22 (.bool false) rfl rfl (run_pick rfl rfl rfl) ?_
    simp only [nz1, nz2, nz3]
    refine lvw 23 (.bool false) rfl rfl (run_mv rfl rfl) ?_
    simp only [nz1, nz2, nz3]
    refine lst_skip 24 rfl rfl ?_
    simp only [nz1, nz2, nz3]
    refine lst_skip 25 rfl rfl ?_
    simp only [nz1, nz2, nz3]
    refine lvw 26 (.bool false) rfl rfl (run_pickf rfl rfl rfl) ?_
    simp only [nz1, nz2, nz3]
    refine lvw 27 (.bool false) rfl rfl (run_mv rfl rfl) ?_
    simp only [nz1, nz2, nz3]
    refine lst_skip 28 rfl rfl ?_
    simp only [nz1, nz2, nz3]
    refine lst_skip 29 rfl rfl ?_
    simp only [nz1, nz2, nz3]
    refine lst_skip 30 rfl rfl ?_
    simp only [nz1, nz2, nz3]
    refine lvw 31 (.bool false) rfl rfl (run_pickf rfl rfl rfl) ?_
    simp only [nz1, nz2, nz3]
    refine lvw 0 (.bool false) rfl rfl (run_as rfl rfl) ?_
    simp only [nz1, nz2]
    refine wpList_nil ?_
    refine then_n (hK19 _ _ ?_)
    refine wp_ret ?_
    have he25 : pawake_m = false := (show pawake_m = false from by unfold pawake_m; rw [if_pos hs20, if_neg hs21] <;> rfl)
    exact ⟨rfl, .bool false, res_t rfl rfl, ⟨by rw [he25], hm18.below⟩⟩
  simp only [nz1, nz2, nz3]
  refine lvw 22 (.bool true) rfl rfl (run_pick rfl rfl rfl) ?_
  simp only [nz1, nz2, nz3]
  refine lvw 23 (.bool true) rfl rfl (run_mv rfl rfl) ?_
  simp only [nz1, nz2, nz3]
  refine lvw 24 (.int .i64 ((decode_m ((encode_m ([(Par.mk ([112, 97, 116, 104]) ([97])), (Par.mk ([107]) ([49, 50, 51, 52, 53]))] : List Par)).1)).2)) rfl rfl (run_mv rfl rfl) ?_
  simp only [nz1, nz2, nz3]
  refine lvb 25 ((decode_m ((encode_m ([(Par.mk ([112, 97, 116, 104]) ([97])), (Par.mk ([107]) ([49, 50, 51, 52, 53]))] : List Par)).1)).2 = 0) rfl rfl (z_eql ((decode_m ((encode_m ([(Par.mk ([112, 97, 116, 104]) ([97])), (Par.mk ([107]) ([49, 50, 51, 52, 53]))] : List Par)).1)).2) 0 rfl rfl rfl) (fun hs22 => ?_) (fun hs22 => ?_)
  · simp only [nz1, nz2, nz3]
    refine lvw 26 (.bool true) rfl rfl (run_pick rfl rfl rfl) ?_
    simp only [nz1, nz2, nz3]
    refine lvw 27 (.bool true) rfl rfl (run_mv rfl rfl) ?_
    simp only [nz1, nz2, nz3]
    refine lvw 28 (v11) rfl rfl (run_mv rfl rfl) ?_
    simp only [nz1, nz2, nz3]
    refine lvw 29 (.int .i64 ((((decode_m ((encode_m ([(Par.mk ([112, 97, 116, 104]) ([97])), (Par.mk ([107]) ([49, 50, 51, 52, 53]))] : List Par)).1)).1).length : Nat) : Int)) rfl rfl (s_len ((hm18.see 1 rfl)) rfl Tryd.underlying36 rfl) ?_
    simp only [nz1, nz2, nz3]
    refine lvw 30 (.bool (decide (((decode_m ((encode_m ([(Par.mk ([112, 97, 116, 104]) ([97])), (Par.mk ([107]) ([49, 50, 51, 52, 53]))] : List Par)).1)).1).length = 2))) rfl rfl (r_eql (((decode_m ((encode_m ([(Par.mk ([112, 97, 116, 104]) ([97])), (Par.mk ([107]) ([49, 50, 51, 52, 53]))] : List Par)).1)).1).length) 2 rfl rfl rfl) ?_
    simp only [nz1, nz2, nz3]
    refine lvw 31 (.bool (decide (((decode_m ((encode_m ([(Par.mk ([112, 97, 116, 104]) ([97])), (Par.mk ([107]) ([49, 50, 51, 52, 53]))] : List Par)).1)).1).length = 2))) rfl rfl (run_pick rfl rfl rfl) ?_
    simp only [nz1, nz2, nz3]
    refine lvw 0 (.bool (decide (((decode_m ((encode_m ([(Par.mk ([112, 97, 116, 104]) ([97])), (Par.mk ([107]) ([49, 50, 51, 52, 53]))] : List Par)).1)).1).length = 2))) rfl rfl (run_as rfl rfl) ?_
    simp only [nz1, nz2]
    refine wpList_nil ?_
    refine then_n (hK19 _ _ ?_)
    refine wp_ret ?_
    have he23 : pawake_m = (decide (((decode_m ((encode_m ([(Par.mk ([112, 97, 116, 104]) ([97])), (Par.mk ([107]) ([49, 50, 51, 52, 53]))] : List Par)).1)).1).length = 2)) := (show pawake_m = (decide (((decode_m ((encode_m ([(Par.mk ([112, 97, 116, 104]) ([97])), (Par.mk ([107]) ([49, 50, 51, 52, 53]))] : List Par)).1)).1).length = 2)) from by unfold pawake_m; rw [if_pos hs20, if_pos hs21, if_pos hs22] <;> rfl)
    exact ⟨rfl, .bool (decide (((decode_m ((encode_m ([(Par.mk ([112, 97, 116, 104]) ([97])), (Par.mk ([107]) ([49, 50, 51, 52, 53]))] : List Par)).1)).1).length = 2)), res_t rfl rfl, ⟨by rw [he23], hm18.below⟩⟩
  simp only [nz1, nz2, nz3]
  refine lvw 26 (.bool false) rfl rfl (run_pick rfl rfl rfl) ?_
  simp only [nz1, nz2, nz3]
  refine lvw 27 (.bool false) rfl rfl (run_mv rfl rfl) ?_
  simp only [nz1, nz2, nz3]
  refine lst_skip 28 rfl rfl ?_
  simp only [nz1, nz2, nz3]
  refine lst_skip 29 rfl rfl ?_
  simp only [nz1, nz2, nz3]
  refine lst_skip 30 rfl rfl ?_
  simp only [nz1, nz2, nz3]
  refine lvw 31 (.bool false) rfl rfl (run_pickf rfl rfl rfl) ?_
  simp only [nz1, nz2, nz3]
  refine lvw 0 (.bool false) rfl rfl (run_as rfl rfl) ?_
  simp only [nz1, nz2]
  refine wpList_nil ?_
  refine then_n (hK19 _ _ ?_)
  refine wp_ret ?_
  have he24 : pawake_m = false := (show pawake_m = false from by unfold pawake_m; rw [if_pos hs20, if_pos hs21, if_neg hs22] <;> rfl)
  exact ⟨rfl, .bool false, res_t rfl rfl, ⟨by rw [he24], hm18.below⟩⟩
theorem run_pawake {o : Oper} {a : Act} {w : World} (ho : o.op = .call { callee := .value (.func 24), args := #[], argTypes := #[] })  :
    (execOp a.eval o).run Tryd.prog w = .ok (.enter 24 #[]) w := by
  unfold execOp
  simp only [ho]
  have hf : a.eval (.func 24) = .func (.func 24) #[] #[] := rfl
  generalize a.eval = f at *
  go_simp
def same_m_b0 (a : List Par) (b : List Par) (rec : Nat → Sum (Nat) (Bool)) (x9 : Nat) : Sum (Nat) (Bool) :=
  if x9 < a.length then
    if ¬ (a.getD x9 dPar) = (b.getD x9 dPar) then
      .inr false
    else
      rec (x9 + 1)
  else
    .inl x9
def same_m_l0 (a : List Par) (b : List Par) : Nat → Nat → Sum (Nat) (Bool)
  | 0, zz => .inl zz
  | nq + 1, zz => same_m_b0 a b (same_m_l0 a b nq) zz

def same_m_k0 (a : List Par) (b : List Par) (y13 : Nat) : Bool :=
  true

def same_m (a : List Par) (b : List Par) : Bool :=
  if ¬ a.length = b.length then
    false
  else
    fin (same_m_l0 a b ((a.length - 0) + 1) 0) (fun r => r) (fun zz => same_m_k0 a b zz)

set_option maxHeartbeats 4000000 in
set_option maxRecDepth 100000 in
theorem same_any (a : List Par) (b : List Par) (av0 bv0 : Value) (w : World) (ha : Rs ePar 2 a av0 w) (hb : Rs ePar 2 b bv0 w) (hp0 : a.length ≤ 4398046511104) : Calls Tryd.prog 33 #[av0, bv0] w (fun e w' => e = .returned (.bool ((same_m a b))) ∧ Below w.heap.size w w') := by
  go_enter Tryd.func33, Tryd.ntmps33
  have hm00 := Mm.nil none (fun _ => True) w
  obtain ⟨Fa, hm01⟩ : ∃ Fa, Mm none (fun _ => True) w w [.see (Rs ePar 2 a av0) Fa] := hm00.come (Rs.all ha)
  obtain ⟨Fb, hm02⟩ : ∃ Fb, Mm none (fun _ => True) w w [.see (Rs ePar 2 a av0) Fa, .see (Rs ePar 2 b bv0) Fb] := hm01.come (Rs.all hb)
  have hm0 := hm02
  refine wp_seq_k (fun K1 hK1 => ?_)
  refine wp_region_lit ?_
  refine lvw 4 (.bool false) rfl rfl (run_as rfl rfl) ?_
  simp only [nz1, nz2, nz3]
  refine wpList_nil ?_
  refine then_n (hK1 _ _ ?_)
  refine wp_seq_k (fun K2 hK2 => ?_)
  refine wp_seq_k (fun K3 hK3 => ?_)
  refine wp_region_lit ?_
  refine lvw 6 (av0) rfl rfl (run_mv rfl rfl) ?_
  simp only [nz1, nz2, nz3]
  refine lvw 7 (.int .i64 ((a.length : Nat) : Int)) rfl rfl (s_len ((hm0.see 0 rfl)) rfl Tryd.underlying36 rfl) ?_
  simp only [nz1, nz2, nz3]
  refine lvw 8 (bv0) rfl rfl (run_mv rfl rfl) ?_
  simp only [nz1, nz2, nz3]
  refine lvw 9 (.int .i64 ((b.length : Nat) : Int)) rfl rfl (s_len ((hm0.see 1 rfl)) rfl Tryd.underlying36 rfl) ?_
  simp only [nz1, nz2, nz3]
  refine lvw 10 (.bool (decide (¬ a.length = b.length))) rfl rfl (r_neq a.length b.length rfl rfl rfl) ?_
  simp only [nz1, nz2, nz3]
  refine wpList_nil ?_
  refine then_n (hK3 _ _ ?_)
  refine cond_d (¬ a.length = b.length) rfl (fun hc4 => ?_) (fun hc4 => ?_)
  · refine wp_seq_k (fun K5 hK5 => ?_)
    refine wp_region_lit ?_
    refine lvw 4 (.bool false) rfl rfl (run_as rfl rfl) ?_
    simp only [nz1, nz2, nz3]
    refine wpList_nil ?_
    refine then_n (hK5 _ _ ?_)
    refine wp_ret ?_
    refine then_r ?_
    have he6 : same_m a b = false := (show same_m a b = false from by unfold same_m; rw [if_pos hc4] <;> rfl)
    exact ⟨rfl, .bool false, res_t rfl rfl, ⟨by rw [he6], hm0.below⟩⟩
  refine wp_skip ?_
  refine then_n (hK2 _ _ ?_)
  refine wp_seq_k (fun K7 hK7 => ?_)
  refine wp_seq_k (fun K8 hK8 => ?_)
  refine wp_region_lit ?_
  refine lvw 5 (.int .i64 0) rfl rfl (run_as rfl rfl) ?_
  simp only [nz1, nz2, nz3]
  refine wpList_nil ?_
  refine then_n (hK8 _ _ ?_)
  refine wp_cutK (fun a' w' => ∃ (y13 : Nat) (yu0 : Nat → Value), same_m_l0 a b ((a.length - 0) + 1) 0 = .inl y13 ∧ a' = ⟨#[av0, bv0, undef, undef, yu0 0, .int .i64 ((y13 : Nat) : Int), av0, .int .i64 ((a.length : Nat) : Int), bv0, .int .i64 ((b.length : Nat) : Int), .bool (decide (¬ a.length = b.length)), yu0 1, yu0 2, yu0 3, yu0 4, yu0 5, yu0 6, yu0 7, yu0 8, yu0 9, yu0 10, yu0 11, yu0 12, yu0 13, yu0 14, yu0 15], []⟩ ∧ Mm none (fun _ => True) w w' [.see (Rs ePar 2 a av0) Fa, .see (Rs ePar 2 b bv0) Fb]) ?_ ?_
  · refine wp_block ?_
    refine wp_loop_n (fun n' a' w' => ∃ (n10 : Nat) (x9 : Nat) (u0 : Nat → Value), n' = n10 ∧ (a.length - x9) < n10 ∧ same_m_l0 a b ((a.length - 0) + 1) 0 = same_m_l0 a b n10 x9 ∧ a' = ⟨#[av0, bv0, undef, undef, u0 0, .int .i64 ((x9 : Nat) : Int), av0, .int .i64 ((a.length : Nat) : Int), bv0, .int .i64 ((b.length : Nat) : Int), .bool (decide (¬ a.length = b.length)), u0 1, u0 2, u0 3, u0 4, u0 5, u0 6, u0 7, u0 8, u0 9, u0 10, u0 11, u0 12, u0 13, u0 14, u0 15], []⟩ ∧ Mm none (fun _ => True) w w' [.see (Rs ePar 2 a av0) Fa, .see (Rs ePar 2 b bv0) Fb]) ⟨((a.length - 0) + 1), 0, (fun qq => List.getD [.bool false, undef, undef, undef, undef, undef, undef, undef, undef, undef, undef, undef, undef, undef, undef, undef] qq undef), rfl, Nat.lt_succ_self _, rfl, rfl, hm0⟩ ?_
    rintro n10 _ w15 ⟨_, x9, u0, rfl, hl19, hi12, rfl, hm16⟩ R17 hR17
    obtain ⟨k11, rfl⟩ : ∃ k, n10 = k + 1 := ⟨n10 - 1, by omega⟩
    refine wp_seq_k (fun K20 hK20 => ?_)
    refine wp_seq_k (fun K21 hK21 => ?_)
    refine wp_region_lit ?_
    refine lvw 11 (.int .i64 ((x9 : Nat) : Int)) rfl rfl (run_mv rfl rfl) ?_
    simp only [nz1, nz2, nz3]
    refine lvw 12 (av0) rfl rfl (run_mv rfl rfl) ?_
    simp only [nz1, nz2, nz3]
    refine lvw 13 (.int .i64 ((a.length : Nat) : Int)) rfl rfl (s_len ((hm16.see 0 rfl)) rfl Tryd.underlying36 rfl) ?_
    simp only [nz1, nz2, nz3]
    refine lvw 14 (.bool (decide (x9 < a.length))) rfl rfl (r_lss x9 a.length rfl rfl rfl) ?_
    simp only [nz1, nz2, nz3]
    refine wpList_nil ?_
    refine then_n (hK21 _ _ ?_)
    refine cond_d (x9 < a.length) rfl (fun hc22 => ?_) (fun hc22 => ?_)
    rotate_left
    · refine wp_exit ?_
      refine then_x ?_
      refine then_x ?_
      refine blk_x ?_
      refine then_n ?_
      exact ⟨x9, (fun qq => List.getD [u0 0, .int .i64 ((x9 : Nat) : Int), av0, .int .i64 ((a.length : Nat) : Int), .bool (decide (x9 < a.length)), u0 5, u0 6, u0 7, u0 8, u0 9, u0 10, u0 11, u0 12, u0 13, u0 14, u0 15] qq undef), (hi12.trans (show same_m_b0 a b (same_m_l0 a b k11) x9 = .inl x9 from by unfold same_m_b0; rw [if_neg hc22] <;> rfl)), rfl, hm16⟩
    refine wp_skip ?_
    refine then_n (hK20 _ _ ?_)
    refine wp_seq_k (fun K23 hK23 => ?_)
    refine wp_block ?_
    refine wp_seq_k (fun K24 hK24 => ?_)
    have hm25 := hm16.drew
    refine wp_region_held_drew (S := fun w' => Rs ePar 2 a av0 w' ∧ Rs ePar 2 b bv0 w') (by kernel_rfl) (⟨((hm25.see 0 rfl)), ((hm25.see 1 rfl))⟩) (fun _ => ?_)
    generalize w15.drew = w26 at *
    refine tk 0 17 (av0) rfl rfl (fun _ hw => run_mv rfl rfl) (⟨((hm25.see 0 rfl)), ((hm25.see 1 rfl))⟩) ?_
    simp only [nz1, nz2, nz3]
    refine tk 1 18 (.int .i64 ((x9 : Nat) : Int)) rfl rfl (fun _ hw => run_mv rfl rfl) (⟨((hm25.see 0 rfl)), ((hm25.see 1 rfl))⟩) ?_
    simp only [nz1, nz2, nz3]
    refine tk 2 19 (.pointer (some ⟨(bk av0), (po av0 + x9 * 2), none⟩)) rfl rfl (fun _ hw => r_ixv ((hm25.see 0 rfl)) x9 (by omega) Tryd.underlying36 sz_47 rfl rfl rfl) (⟨((hm25.see 0 rfl)), ((hm25.see 1 rfl))⟩) ?_
    simp only [nz1, nz2, nz3]
    refine tk 3 20 (.agg #[.string (tx ((a.getD x9 dPar).key)), .string (tx ((a.getD x9 dPar).value))]) rfl rfl (fun _ hw => r_partw (fun j u hj => Rs.cell hw.1 ePar_len dPar x9 (by omega) j u (arr_get hj)) Tryd.underlying47 rfl (by exact sz_47) rfl rfl) (⟨((hm25.see 0 rfl)), ((hm25.see 1 rfl))⟩) ?_
    simp only [nz1, nz2, nz3]
    refine tk 4 21 (bv0) rfl rfl (fun _ hw => run_mv rfl rfl) (⟨((hm25.see 0 rfl)), ((hm25.see 1 rfl))⟩) ?_
    simp only [nz1, nz2, nz3]
    refine tk 5 22 (.int .i64 ((x9 : Nat) : Int)) rfl rfl (fun _ hw => run_mv rfl rfl) (⟨((hm25.see 0 rfl)), ((hm25.see 1 rfl))⟩) ?_
    simp only [nz1, nz2, nz3]
    refine tk 6 23 (.pointer (some ⟨(bk bv0), (po bv0 + x9 * 2), none⟩)) rfl rfl (fun _ hw => r_ixv ((hm25.see 1 rfl)) x9 (by omega) Tryd.underlying36 sz_47 rfl rfl rfl) (⟨((hm25.see 0 rfl)), ((hm25.see 1 rfl))⟩) ?_
    simp only [nz1, nz2, nz3]
    refine tk 7 24 (.agg #[.string (tx ((b.getD x9 dPar).key)), .string (tx ((b.getD x9 dPar).value))]) rfl rfl (fun _ hw => r_partw (fun j u hj => Rs.cell hw.2 ePar_len dPar x9 (by omega) j u (arr_get hj)) Tryd.underlying47 rfl (by exact sz_47) rfl rfl) (⟨((hm25.see 0 rfl)), ((hm25.see 1 rfl))⟩) ?_
    simp only [nz1, nz2, nz3]
    refine tk 8 25 (.bool (decide (¬ (a.getD x9 dPar) = (b.getD x9 dPar)))) rfl rfl (fun _ hw => c47_neq (a.getD x9 dPar) (b.getD x9 dPar) rfl rfl rfl) (⟨((hm25.see 0 rfl)), ((hm25.see 1 rfl))⟩) ?_
    simp only [nz1, nz2, nz3]
    refine wpAnyH_done (by kernel_rfl) ?_ _
    refine then_n (hK24 _ _ ?_)
    refine cond_d (¬ (a.getD x9 dPar) = (b.getD x9 dPar)) rfl (fun hc27 => ?_) (fun hc27 => ?_)
    rotate_left
    · refine wp_skip ?_
      refine blk_n ?_
      refine then_n (hK23 _ _ ?_)
      refine wp_region_lit ?_
      refine lvw 15 (.int .i64 ((x9 : Nat) : Int)) rfl rfl (run_mv rfl rfl) ?_
      simp only [nz1, nz2, nz3]
      refine lvw 16 (.int .i64 (((x9 + 1) : Nat) : Int)) rfl rfl (r_add x9 1 (show (x9 + 1) < 9223372036854775808 from by omega) rfl rfl rfl) ?_
      simp only [nz1, nz2, nz3]
      refine lvw 5 (.int .i64 (((x9 + 1) : Nat) : Int)) rfl rfl (run_as rfl rfl) ?_
      simp only [nz1, nz2, nz3]
      refine wpList_nil ?_
      refine then_n (hR17 _ _ _ ⟨k11, (x9 + 1), (fun qq => List.getD [u0 0, .int .i64 ((x9 : Nat) : Int), av0, .int .i64 ((a.length : Nat) : Int), .bool (decide (x9 < a.length)), .int .i64 ((x9 : Nat) : Int), .int .i64 (((x9 + 1) : Nat) : Int), av0, .int .i64 ((x9 : Nat) : Int), .pointer (some ⟨(bk av0), (po av0 + x9 * 2), none⟩), .agg #[.string (tx ((a.getD x9 dPar).key)), .string (tx ((a.getD x9 dPar).value))], bv0, .int .i64 ((x9 : Nat) : Int), .pointer (some ⟨(bk bv0), (po bv0 + x9 * 2), none⟩), .agg #[.string (tx ((b.getD x9 dPar).key)), .string (tx ((b.getD x9 dPar).value))], .bool (decide (¬ (a.getD x9 dPar) = (b.getD x9 dPar)))] qq undef), rfl, (by first | omega | (simp; omega) | (simp at *; omega)), (hi12.trans (show same_m_b0 a b (same_m_l0 a b k11) x9 = same_m_l0 a b k11 (x9 + 1) from by unfold same_m_b0; rw [if_pos hc22, if_neg hc27] <;> rfl)), rfl, hm25⟩ ?_)
      omega
    refine wp_seq_k (fun K28 hK28 => ?_)
    refine wp_region_lit ?_
    refine lvw 4 (.bool false) rfl rfl (run_as rfl rfl) ?_
    simp only [nz1, nz2, nz3]
    refine wpList_nil ?_
    refine then_n (hK28 _ _ ?_)
    refine wp_ret ?_
    refine blk_r ?_
    refine then_r ?_
    refine then_r ?_
    refine blk_r ?_
    refine then_r ?_
    refine then_r ?_
    have he29 : same_m_l0 a b ((a.length - 0) + 1) 0 = .inr false := (hi12.trans (show same_m_b0 a b (same_m_l0 a b k11) x9 = .inr false from by unfold same_m_b0; rw [if_pos hc22, if_pos hc27] <;> rfl))
    have he30 : same_m a b = false := (show same_m a b = false from by unfold same_m; rw [if_neg hc4, he29] <;> rfl)
    exact ⟨rfl, .bool false, res_t rfl rfl, ⟨by rw [he30], hm25.below⟩⟩
  rintro _ w31 ⟨y13, yu0, hx14, rfl, hm32⟩
  have hq33 : same_m a b = same_m_k0 a b y13 := (show same_m a b = same_m_k0 a b y13 from by unfold same_m; rw [if_neg hc4, hx14] <;> rfl)
  refine then_n (hK7 _ _ ?_)
  refine wp_seq_k (fun K34 hK34 => ?_)
  refine wp_region_lit ?_
  refine lvw 4 (.bool true) rfl rfl (run_as rfl rfl) ?_
  simp only [nz1, nz2, nz3]
  refine wpList_nil ?_
  refine then_n (hK34 _ _ ?_)
  refine wp_ret ?_
  have he35 : same_m a b = true := (hq33.trans (show same_m_k0 a b y13 = true from by unfold same_m_k0; rfl))
  exact ⟨rfl, .bool true, res_t rfl rfl, ⟨by rw [he35], hm32.below⟩⟩
theorem run_same {o : Oper} {a : Act} {w : World} {x0 x1 : Operand} {v0 v1 : Value} (ho : o.op = .call { callee := .value (.func 33), args := #[x0, x1], argTypes := #[36, 36] }) (h0 : a.eval x0 = v0) (h1 : a.eval x1 = v1) :
    (execOp a.eval o).run Tryd.prog w = .ok (.enter 33 #[v0, v1]) w := by
  unfold execOp
  simp only [ho]
  have hf : a.eval (.func 33) = .func (.func 33) #[] #[] := rfl
  generalize a.eval = f at *
  go_simp
def great_m_b0 (l : List Par) (rec : Nat × Nat → Sum (Nat × Nat) (Bool)) (x5 : Nat) (x6 : Nat) : Sum (Nat × Nat) (Bool) :=
  if x6 < l.length then
    if ((20000 : Int) - ((x5 : Nat) : Int)) < ((((l.getD x6 dPar).key).length : Nat) : Int) then
      .inr true
    else
      if ((20000 : Int) - ((x5 : Nat) : Int)) < ((((l.getD x6 dPar).value).length : Nat) : Int) then
        .inr true
      else
        if 500 < x6 then
          .inr true
        else
          if ((20000 : Int) - (((x5 + (((l.getD x6 dPar).key).length)) : Nat) : Int)) < ((((l.getD x6 dPar).value).length : Nat) : Int) then
            .inr true
          else
            rec (((x5 + (((l.getD x6 dPar).key).length)) + (((l.getD x6 dPar).value).length)), (x6 + 1))
  else
    .inl (x5, x6)
def great_m_l0 (l : List Par) : Nat → Nat × Nat → Sum (Nat × Nat) (Bool)
  | 0, zz => .inl zz
  | nq + 1, zz => great_m_b0 l (great_m_l0 l nq) zz.1 zz.2

def great_m_k0 (l : List Par) (y10 : Nat) (y11 : Nat) : Bool :=
  false

def great_m (l : List Par) : Bool :=
  fin (great_m_l0 l ((l.length - 0) + 1) (0, 0)) (fun r => r) (fun zz => great_m_k0 l zz.1 zz.2)

set_option maxHeartbeats 4000000 in
set_option maxRecDepth 100000 in
theorem great_any (l : List Par) (lv0 : Value) (w : World) (hl : Rs ePar 2 l lv0 w) (hp0 : l.length ≤ 4398046511104) : Calls Tryd.prog 23 #[lv0] w (fun e w' => e = .returned (.bool ((great_m l))) ∧ Below w.heap.size w w') := by
  go_enter Tryd.func23, Tryd.ntmps23
  have hm00 := Mm.nil none (fun _ => True) w
  obtain ⟨Fl, hm01⟩ : ∃ Fl, Mm none (fun _ => True) w w [.see (Rs ePar 2 l lv0) Fl] := hm00.come (Rs.all hl)
  have hm0 := hm01
  refine wp_seq_k (fun K1 hK1 => ?_)
  refine wp_region_lit ?_
  refine lvw 2 (.bool false) rfl rfl (run_as rfl rfl) ?_
  simp only [nz1, nz2, nz3]
  refine wpList_nil ?_
  refine then_n (hK1 _ _ ?_)
  refine wp_seq_k (fun K2 hK2 => ?_)
  refine wp_region_lit ?_
  refine lvw 3 (.int .i64 0) rfl rfl (run_as rfl rfl) ?_
  simp only [nz1, nz2, nz3]
  refine wpList_nil ?_
  refine then_n (hK2 _ _ ?_)
  refine wp_seq_k (fun K3 hK3 => ?_)
  refine wp_seq_k (fun K4 hK4 => ?_)
  refine wp_region_lit ?_
  refine lvw 4 (.int .i64 0) rfl rfl (run_as rfl rfl) ?_
  simp only [nz1, nz2, nz3]
  refine wpList_nil ?_
  refine then_n (hK4 _ _ ?_)
  refine wp_cutK (fun a' w' => ∃ (y10 : Nat) (y11 : Nat) (yu0 : Nat → Value), great_m_l0 l ((l.length - 0) + 1) (0, 0) = .inl (y10, y11) ∧ (0 ≤ y10 ∧ y10 ≤ 20000 ∧ 0 ≤ y11 ∧ y11 ≤ l.length) ∧ a' = ⟨#[lv0, undef, yu0 0, .int .i64 ((y10 : Nat) : Int), .int .i64 ((y11 : Nat) : Int), yu0 1, yu0 2, yu0 3, yu0 4, yu0 5, yu0 6, yu0 7, yu0 8, yu0 9, yu0 10, yu0 11, yu0 12, yu0 13, yu0 14, yu0 15, yu0 16, yu0 17, yu0 18, yu0 19, yu0 20, yu0 21, yu0 22, yu0 23, yu0 24, yu0 25, yu0 26, yu0 27, yu0 28, yu0 29, yu0 30, yu0 31, yu0 32, yu0 33, yu0 34, yu0 35, yu0 36, yu0 37, yu0 38, yu0 39, yu0 40, yu0 41, yu0 42, yu0 43, yu0 44, yu0 45, yu0 46, yu0 47, yu0 48, yu0 49, yu0 50, yu0 51, yu0 52, yu0 53, yu0 54, yu0 55], []⟩ ∧ Mm none (fun _ => True) w w' [.see (Rs ePar 2 l lv0) Fl]) ?_ ?_
  · refine wp_block ?_
    refine wp_loop_n (fun n' a' w' => ∃ (n7 : Nat) (x5 : Nat) (x6 : Nat) (u0 : Nat → Value), n' = n7 ∧ (l.length - x6) < n7 ∧ great_m_l0 l ((l.length - 0) + 1) (0, 0) = great_m_l0 l n7 (x5, x6) ∧ (0 ≤ x5 ∧ x5 ≤ 20000 ∧ 0 ≤ x6 ∧ x6 ≤ l.length) ∧ a' = ⟨#[lv0, undef, u0 0, .int .i64 ((x5 : Nat) : Int), .int .i64 ((x6 : Nat) : Int), u0 1, u0 2, u0 3, u0 4, u0 5, u0 6, u0 7, u0 8, u0 9, u0 10, u0 11, u0 12, u0 13, u0 14, u0 15, u0 16, u0 17, u0 18, u0 19, u0 20, u0 21, u0 22, u0 23, u0 24, u0 25, u0 26, u0 27, u0 28, u0 29, u0 30, u0 31, u0 32, u0 33, u0 34, u0 35, u0 36, u0 37, u0 38, u0 39, u0 40, u0 41, u0 42, u0 43, u0 44, u0 45, u0 46, u0 47, u0 48, u0 49, u0 50, u0 51, u0 52, u0 53, u0 54, u0 55], []⟩ ∧ Mm none (fun _ => True) w w' [.see (Rs ePar 2 l lv0) Fl]) ⟨((l.length - 0) + 1), 0, 0, (fun qq => bif Nat.blt qq 24 then List.getD [.bool false, undef, undef, undef, undef, undef, undef, undef, undef, undef, undef, undef, undef, undef, undef, undef, undef, undef, undef, undef, undef, undef, undef, undef] qq undef else bif Nat.blt qq 48 then List.getD [undef, undef, undef, undef, undef, undef, undef, undef, undef, undef, undef, undef, undef, undef, undef, undef, undef, undef, undef, undef, undef, undef, undef, undef] (qq - 24) undef else List.getD [undef, undef, undef, undef, undef, undef, undef, undef] (qq - 48) undef), rfl, Nat.lt_succ_self _, rfl, (by first | omega | (simp; done) | (simp; omega) | (simp at *; omega)), rfl, hm0⟩ ?_
    rintro n7 _ w13 ⟨_, x5, x6, u0, rfl, hl17, hi9, hgr, rfl, hm14⟩ R15 hR15
    obtain ⟨k8, rfl⟩ : ∃ k, n7 = k + 1 := ⟨n7 - 1, by omega⟩
    refine wp_seq_k (fun K18 hK18 => ?_)
    refine wp_seq_k (fun K19 hK19 => ?_)
    refine wp_region_lit ?_
    refine lvw 5 (.int .i64 ((x6 : Nat) : Int)) rfl rfl (run_mv rfl rfl) ?_
    simp only [nz1, nz2, nz3]
    refine lvw 6 (lv0) rfl rfl (run_mv rfl rfl) ?_
    simp only [nz1, nz2, nz3]
    refine lvw 7 (.int .i64 ((l.length : Nat) : Int)) rfl rfl (s_len ((hm14.see 0 rfl)) rfl Tryd.underlying36 rfl) ?_
    simp only [nz1, nz2, nz3]
    refine lvw 8 (.bool (decide (x6 < l.length))) rfl rfl (r_lss x6 l.length rfl rfl rfl) ?_
    simp only [nz1, nz2, nz3]
    refine wpList_nil ?_
    refine then_n (hK19 _ _ ?_)
    refine cond_d (x6 < l.length) rfl (fun hc20 => ?_) (fun hc20 => ?_)
    rotate_left
    · refine wp_exit ?_
      refine then_x ?_
      refine then_x ?_
      refine blk_x ?_
      refine then_n ?_
      exact ⟨x5, x6, (fun qq => bif Nat.blt qq 24 then List.getD [u0 0, .int .i64 ((x6 : Nat) : Int), lv0, .int .i64 ((l.length : Nat) : Int), .bool (decide (x6 < l.length)), u0 5, u0 6, u0 7, u0 8, u0 9, u0 10, u0 11, u0 12, u0 13, u0 14, u0 15, u0 16, u0 17, u0 18, u0 19, u0 20, u0 21, u0 22, u0 23] qq undef else bif Nat.blt qq 48 then List.getD [u0 24, u0 25, u0 26, u0 27, u0 28, u0 29, u0 30, u0 31, u0 32, u0 33, u0 34, u0 35, u0 36, u0 37, u0 38, u0 39, u0 40, u0 41, u0 42, u0 43, u0 44, u0 45, u0 46, u0 47] (qq - 24) undef else List.getD [u0 48, u0 49, u0 50, u0 51, u0 52, u0 53, u0 54, u0 55] (qq - 48) undef), (hi9.trans (show great_m_b0 l (great_m_l0 l k8) x5 x6 = .inl (x5, x6) from by unfold great_m_b0; rw [if_neg hc20] <;> rfl)), (by first | omega | (simp; done) | (simp; omega) | (simp at *; omega)), rfl, hm14⟩
    refine wp_skip ?_
    refine then_n (hK18 _ _ ?_)
    refine wp_seq_k (fun K21 hK21 => ?_)
    refine wp_block ?_
    refine wp_seq_k (fun K22 hK22 => ?_)
    refine wp_seq_k (fun K23 hK23 => ?_)
    refine wp_region_lit ?_
    refine lvw 11 (lv0) rfl rfl (run_mv rfl rfl) ?_
    simp only [nz1, nz2, nz3]
    refine lvw 12 (.int .i64 ((x6 : Nat) : Int)) rfl rfl (run_mv rfl rfl) ?_
    simp only [nz1, nz2, nz3]
    refine lvw 13 (.pointer (some ⟨(bk lv0), (po lv0 + x6 * 2), none⟩)) rfl rfl (r_ixv ((hm14.see 0 rfl)) x6 (by omega) Tryd.underlying36 sz_47 rfl rfl rfl) ?_
    simp only [nz1, nz2, nz3]
    refine lvw 14 (.pointer (some ⟨(bk lv0), ((po lv0 + x6 * 2) + 0), none⟩)) rfl rfl (r_fa47_0 (bk lv0) (po lv0 + x6 * 2) rfl rfl) ?_
    simp only [nz1, nz2, nz3]
    refine lvw 15 (.string (tx ((l.getD x6 dPar).key))) rfl rfl (r_cellw (Rs.cell ((hm14.see 0 rfl)) ePar_len dPar x6 (by omega) 0 _ rfl) Tryd.underlying9 rfl rfl rfl) ?_
    simp only [nz1, nz2, nz3]
    refine lvw 16 (.int .i64 ((((l.getD x6 dPar).key).length : Nat) : Int)) rfl rfl (t_len rfl Tryd.underlying9 rfl) ?_
    simp only [nz1, nz2, nz3]
    refine lvw 17 (.int .i64 ((x5 : Nat) : Int)) rfl rfl (run_mv rfl rfl) ?_
    simp only [nz1, nz2, nz3]
    refine lvw 18 (.int .i64 (((20000 : Int) - ((x5 : Nat) : Int)))) rfl rfl (z_sub (20000 : Int) ((x5 : Nat) : Int) _ (by rw [IntKind.wrap_i64]; omega) rfl rfl rfl) ?_
    simp only [nz1, nz2, nz3]
    refine lvb 19 (((20000 : Int) - ((x5 : Nat) : Int)) < ((((l.getD x6 dPar).key).length : Nat) : Int)) rfl rfl (z_gtr ((((l.getD x6 dPar).key).length : Nat) : Int) ((20000 : Int) - ((x5 : Nat) : Int)) rfl rfl rfl) (fun hs24 => ?_) (fun hs24 => ?_)
    · simp only [nz1, nz2, nz3]
      refine lvw 20 (.bool true) rfl rfl (run_mv rfl rfl) ?_
      simp only [nz1, nz2, nz3]
      refine lst_skip 21 rfl rfl ?_
      simp only [nz1, nz2, nz3]
      refine lst_skip 22 rfl rfl ?_
      simp only [nz1, nz2, nz3]
      refine lst_skip 23 rfl rfl ?_
      simp only [nz1, nz2, nz3]
      refine lst_skip 24 rfl rfl ?_
      simp only [nz1, nz2, nz3]
      refine lst_skip 25 rfl rfl ?_
      simp only [nz1, nz2, nz3]
      refine lst_skip 26 rfl rfl ?_
      simp only [nz1, nz2, nz3]
      refine lst_skip 27 rfl rfl ?_
      simp only [nz1, nz2, nz3]
      refine lst_skip 28 rfl rfl ?_
      simp only [nz1, nz2, nz3]
      refine lst_skip 29 rfl rfl ?_
      simp only [nz1, nz2, nz3]
      refine lvw 30 (.bool true) rfl rfl (run_pick rfl rfl rfl) ?_
      simp only [nz1, nz2, nz3]
      refine lvw 31 (.bool true) rfl rfl (run_mv rfl rfl) ?_
      simp only [nz1, nz2, nz3]
      refine lst_skip 32 rfl rfl ?_
      simp only [nz1, nz2, nz3]
      refine lst_skip 33 rfl rfl ?_
      simp only [nz1, nz2, nz3]
      refine lvw 34 (.bool true) rfl rfl (run_pick rfl rfl rfl) ?_
      simp only [nz1, nz2, nz3]
      refine wpList_nil ?_
      refine then_n (hK23 _ _ ?_)
      refine cond_t rfl ?_
      refine wp_seq_k (fun K25 hK25 => ?_)
      refine wp_region_lit ?_
      refine lvw 2 (.bool true) rfl rfl (run_as rfl rfl) ?_
      simp only [nz1, nz2, nz3]
      refine wpList_nil ?_
      refine then_n (hK25 _ _ ?_)
      refine wp_ret ?_
      refine then_r ?_
      refine blk_r ?_
      refine then_r ?_
      refine then_r ?_
      refine blk_r ?_
      refine then_r ?_
      refine then_r ?_
      have he26 : great_m_l0 l ((l.length - 0) + 1) (0, 0) = .inr true := (hi9.trans (show great_m_b0 l (great_m_l0 l k8) x5 x6 = .inr true from by unfold great_m_b0; rw [if_pos hc20, if_pos hs24] <;> rfl))
      have he27 : great_m l = true := (show great_m l = true from by unfold great_m; rw [he26] <;> rfl)
      exact ⟨rfl, .bool true, res_t rfl rfl, ⟨by rw [he27], hm14.below⟩⟩
    simp only [nz1, nz2, nz3]
    refine lvw 20 (.bool false) rfl rfl (run_mv rfl rfl) ?_
    simp only [nz1, nz2, nz3]
    refine lvw 21 (lv0) rfl rfl (run_mv rfl rfl) ?_
    simp only [nz1, nz2, nz3]
    refine lvw 22 (.int .i64 ((x6 : Nat) : Int)) rfl rfl (run_mv rfl rfl) ?_
    simp only [nz1, nz2, nz3]
    refine lvw 23 (.pointer (some ⟨(bk lv0), (po lv0 + x6 * 2), none⟩)) rfl rfl (r_ixv ((hm14.see 0 rfl)) x6 (by omega) Tryd.underlying36 sz_47 rfl rfl rfl) ?_
    simp only [nz1, nz2, nz3]
    refine lvw 24 (.pointer (some ⟨(bk lv0), ((po lv0 + x6 * 2) + 1), none⟩)) rfl rfl (r_fa47_1 (bk lv0) (po lv0 + x6 * 2) rfl rfl) ?_
    simp only [nz1, nz2, nz3]
    refine lvw 25 (.string (tx ((l.getD x6 dPar).value))) rfl rfl (r_cellw (Rs.cell ((hm14.see 0 rfl)) ePar_len dPar x6 (by omega) 1 _ rfl) Tryd.underlying9 rfl rfl rfl) ?_
    simp only [nz1, nz2, nz3]
    refine lvw 26 (.int .i64 ((((l.getD x6 dPar).value).length : Nat) : Int)) rfl rfl (t_len rfl Tryd.underlying9 rfl) ?_
    simp only [nz1, nz2, nz3]
    refine lvw 27 (.int .i64 ((x5 : Nat) : Int)) rfl rfl (run_mv rfl rfl) ?_
    simp only [nz1, nz2, nz3]
    refine lvw 28 (.int .i64 (((20000 : Int) - ((x5 : Nat) : Int)))) rfl rfl (z_sub (20000 : Int) ((x5 : Nat) : Int) _ (by rw [IntKind.wrap_i64]; omega) rfl rfl rfl) ?_
    simp only [nz1, nz2, nz3]
    refine lvb 29 (((20000 : Int) - ((x5 : Nat) : Int)) < ((((l.getD x6 dPar).value).length : Nat) : Int)) rfl rfl (z_gtr ((((l.getD x6 dPar).value).length : Nat) : Int) ((20000 : Int) - ((x5 : Nat) : Int)) rfl rfl rfl) (fun hs28 => ?_) (fun hs28 => ?_)
    · simp only [nz1, nz2, nz3]
      refine lvw 30 (.bool true) rfl rfl (run_pickf rfl rfl rfl) ?_
      simp only [nz1, nz2, nz3]
      refine lvw 31 (.bool true) rfl rfl (run_mv rfl rfl) ?_
      simp only [nz1, nz2, nz3]
      refine lst_skip 32 rfl rfl ?_
      simp only [nz1, nz2, nz3]
      refine lst_skip 33 rfl rfl ?_
      simp only [nz1, nz2, nz3]
      refine lvw 34 (.bool true) rfl rfl (run_pick rfl rfl rfl) ?_
      simp only [nz1, nz2, nz3]
      refine wpList_nil ?_
      refine then_n (hK23 _ _ ?_)
      refine cond_t rfl ?_
      refine wp_seq_k (fun K29 hK29 => ?_)
      refine wp_region_lit ?_
      refine lvw 2 (.bool true) rfl rfl (run_as rfl rfl) ?_
      simp only [nz1, nz2, nz3]
      refine wpList_nil ?_
      refine then_n (hK29 _ _ ?_)
      refine wp_ret ?_
      refine then_r ?_
      refine blk_r ?_
      refine then_r ?_
      refine then_r ?_
      refine blk_r ?_
      refine then_r ?_
      refine then_r ?_
      have he30 : great_m_l0 l ((l.length - 0) + 1) (0, 0) = .inr true := (hi9.trans (show great_m_b0 l (great_m_l0 l k8) x5 x6 = .inr true from by unfold great_m_b0; rw [if_pos hc20, if_neg hs24, if_pos hs28] <;> rfl))
      have he31 : great_m l = true := (show great_m l = true from by unfold great_m; rw [he30] <;> rfl)
      exact ⟨rfl, .bool true, res_t rfl rfl, ⟨by rw [he31], hm14.below⟩⟩
    simp only [nz1, nz2, nz3]
    refine lvw 30 (.bool false) rfl rfl (run_pickf rfl rfl rfl) ?_
    simp only [nz1, nz2, nz3]
    refine lvw 31 (.bool false) rfl rfl (run_mv rfl rfl) ?_
    simp only [nz1, nz2, nz3]
    refine lvw 32 (.int .i64 ((x6 : Nat) : Int)) rfl rfl (run_mv rfl rfl) ?_
    simp only [nz1, nz2, nz3]
    refine lvw 33 (.bool (decide (500 < x6))) rfl rfl (r_gtr x6 500 rfl rfl rfl) ?_
    simp only [nz1, nz2, nz3]
    refine lvw 34 (.bool (decide (500 < x6))) rfl rfl (run_pickf rfl rfl rfl) ?_
    simp only [nz1, nz2, nz3]
    refine wpList_nil ?_
    refine then_n (hK23 _ _ ?_)
    refine cond_d (500 < x6) rfl (fun hc32 => ?_) (fun hc32 => ?_)
    · refine wp_seq_k (fun K33 hK33 => ?_)
      refine wp_region_lit ?_
      refine lvw 2 (.bool true) rfl rfl (run_as rfl rfl) ?_
      simp only [nz1, nz2, nz3]
      refine wpList_nil ?_
      refine then_n (hK33 _ _ ?_)
      refine wp_ret ?_
      refine then_r ?_
      refine blk_r ?_
      refine then_r ?_
      refine then_r ?_
      refine blk_r ?_
      refine then_r ?_
      refine then_r ?_
      have he34 : great_m_l0 l ((l.length - 0) + 1) (0, 0) = .inr true := (hi9.trans (show great_m_b0 l (great_m_l0 l k8) x5 x6 = .inr true from by unfold great_m_b0; rw [if_pos hc20, if_neg hs24, if_neg hs28, if_pos hc32] <;> rfl))
      have he35 : great_m l = true := (show great_m l = true from by unfold great_m; rw [he34] <;> rfl)
      exact ⟨rfl, .bool true, res_t rfl rfl, ⟨by rw [he35], hm14.below⟩⟩
    refine wp_skip ?_
    refine then_n (hK22 _ _ ?_)
    refine wp_seq_k (fun K36 hK36 => ?_)
    refine wp_region_lit ?_
    refine lvw 35 (.int .i64 ((x5 : Nat) : Int)) rfl rfl (run_mv rfl rfl) ?_
    simp only [nz1, nz2, nz3]
    refine lvw 36 (lv0) rfl rfl (run_mv rfl rfl) ?_
    simp only [nz1, nz2, nz3]
    refine lvw 37 (.int .i64 ((x6 : Nat) : Int)) rfl rfl (run_mv rfl rfl) ?_
    simp only [nz1, nz2, nz3]
    refine lvw 38 (.pointer (some ⟨(bk lv0), (po lv0 + x6 * 2), none⟩)) rfl rfl (r_ixv ((hm14.see 0 rfl)) x6 (by omega) Tryd.underlying36 sz_47 rfl rfl rfl) ?_
    simp only [nz1, nz2, nz3]
    refine lvw 39 (.pointer (some ⟨(bk lv0), ((po lv0 + x6 * 2) + 0), none⟩)) rfl rfl (r_fa47_0 (bk lv0) (po lv0 + x6 * 2) rfl rfl) ?_
    simp only [nz1, nz2, nz3]
    refine lvw 40 (.string (tx ((l.getD x6 dPar).key))) rfl rfl (r_cellw (Rs.cell ((hm14.see 0 rfl)) ePar_len dPar x6 (by omega) 0 _ rfl) Tryd.underlying9 rfl rfl rfl) ?_
    simp only [nz1, nz2, nz3]
    refine lvw 41 (.int .i64 ((((l.getD x6 dPar).key).length : Nat) : Int)) rfl rfl (t_len rfl Tryd.underlying9 rfl) ?_
    simp only [nz1, nz2, nz3]
    refine lvw 42 (.int .i64 (((x5 + (((l.getD x6 dPar).key).length)) : Nat) : Int)) rfl rfl (r_add x5 (((l.getD x6 dPar).key).length) (show (x5 + (((l.getD x6 dPar).key).length)) < 9223372036854775808 from by omega) rfl rfl rfl) ?_
    simp only [nz1, nz2, nz3]
    refine lvw 3 (.int .i64 (((x5 + (((l.getD x6 dPar).key).length)) : Nat) : Int)) rfl rfl (run_as rfl rfl) ?_
    simp only [nz1, nz2, nz3]
    refine wpList_nil ?_
    refine then_n (hK36 _ _ ?_)
    refine wp_seq_k (fun K37 hK37 => ?_)
    refine wp_seq_k (fun K38 hK38 => ?_)
    refine wp_region_lit ?_
    refine lvw 43 (lv0) rfl rfl (run_mv rfl rfl) ?_
    simp only [nz1, nz2, nz3]
    refine lvw 44 (.int .i64 ((x6 : Nat) : Int)) rfl rfl (run_mv rfl rfl) ?_
    simp only [nz1, nz2, nz3]
    refine lvw 45 (.pointer (some ⟨(bk lv0), (po lv0 + x6 * 2), none⟩)) rfl rfl (r_ixv ((hm14.see 0 rfl)) x6 (by omega) Tryd.underlying36 sz_47 rfl rfl rfl) ?_
    simp only [nz1, nz2, nz3]
    refine lvw 46 (.pointer (some ⟨(bk lv0), ((po lv0 + x6 * 2) + 1), none⟩)) rfl rfl (r_fa47_1 (bk lv0) (po lv0 + x6 * 2) rfl rfl) ?_
    simp only [nz1, nz2, nz3]
    refine lvw 47 (.string (tx ((l.getD x6 dPar).value))) rfl rfl (r_cellw (Rs.cell ((hm14.see 0 rfl)) ePar_len dPar x6 (by omega) 1 _ rfl) Tryd.underlying9 rfl rfl rfl) ?_
    simp only [nz1, nz2, nz3]
    refine lvw 48 (.int .i64 ((((l.getD x6 dPar).value).length : Nat) : Int)) rfl rfl (t_len rfl Tryd.underlying9 rfl) ?_
    simp only [nz1, nz2, nz3]
    refine lvw 49 (.int .i64 (((x5 + (((l.getD x6 dPar).key).length)) : Nat) : Int)) rfl rfl (run_mv rfl rfl) ?_
    simp only [nz1, nz2, nz3]
    refine lvw 50 (.int .i64 (((20000 : Int) - (((x5 + (((l.getD x6 dPar).key).length)) : Nat) : Int)))) rfl rfl (z_sub (20000 : Int) (((x5 + (((l.getD x6 dPar).key).length)) : Nat) : Int) _ (by rw [IntKind.wrap_i64]; omega) rfl rfl rfl) ?_
    simp only [nz1, nz2, nz3]
    refine lvw 51 (.bool (decide (((20000 : Int) - (((x5 + (((l.getD x6 dPar).key).length)) : Nat) : Int)) < ((((l.getD x6 dPar).value).length : Nat) : Int)))) rfl rfl (z_gtr ((((l.getD x6 dPar).value).length : Nat) : Int) ((20000 : Int) - (((x5 + (((l.getD x6 dPar).key).length)) : Nat) : Int)) rfl rfl rfl) ?_
    simp only [nz1, nz2, nz3]
    refine wpList_nil ?_
    refine then_n (hK38 _ _ ?_)
    refine cond_d (((20000 : Int) - (((x5 + (((l.getD x6 dPar).key).length)) : Nat) : Int)) < ((((l.getD x6 dPar).value).length : Nat) : Int)) rfl (fun hc39 => ?_) (fun hc39 => ?_)
    · refine wp_seq_k (fun K40 hK40 => ?_)
      refine wp_region_lit ?_
      refine lvw 2 (.bool true) rfl rfl (run_as rfl rfl) ?_
      simp only [nz1, nz2, nz3]
      refine wpList_nil ?_
      refine then_n (hK40 _ _ ?_)
      refine wp_ret ?_
      refine then_r ?_
      refine blk_r ?_
      refine then_r ?_
      refine then_r ?_
      refine blk_r ?_
      refine then_r ?_
      refine then_r ?_
      have he41 : great_m_l0 l ((l.length - 0) + 1) (0, 0) = .inr true := (hi9.trans (show great_m_b0 l (great_m_l0 l k8) x5 x6 = .inr true from by unfold great_m_b0; rw [if_pos hc20, if_neg hs24, if_neg hs28, if_neg hc32, if_pos hc39] <;> rfl))
      have he42 : great_m l = true := (show great_m l = true from by unfold great_m; rw [he41] <;> rfl)
      exact ⟨rfl, .bool true, res_t rfl rfl, ⟨by rw [he42], hm14.below⟩⟩
    refine wp_skip ?_
    refine then_n (hK37 _ _ ?_)
    refine wp_region_lit ?_
    refine lvw 52 (.int .i64 (((x5 + (((l.getD x6 dPar).key).length)) : Nat) : Int)) rfl rfl (run_mv rfl rfl) ?_
    simp only [nz1, nz2, nz3]
    refine lvw 53 (lv0) rfl rfl (run_mv rfl rfl) ?_
    simp only [nz1, nz2, nz3]
    refine lvw 54 (.int .i64 ((x6 : Nat) : Int)) rfl rfl (run_mv rfl rfl) ?_
    simp only [nz1, nz2, nz3]
    refine lvw 55 (.pointer (some ⟨(bk lv0), (po lv0 + x6 * 2), none⟩)) rfl rfl (r_ixv ((hm14.see 0 rfl)) x6 (by omega) Tryd.underlying36 sz_47 rfl rfl rfl) ?_
    simp only [nz1, nz2, nz3]
    refine lvw 56 (.pointer (some ⟨(bk lv0), ((po lv0 + x6 * 2) + 1), none⟩)) rfl rfl (r_fa47_1 (bk lv0) (po lv0 + x6 * 2) rfl rfl) ?_
    simp only [nz1, nz2, nz3]
    refine lvw 57 (.string (tx ((l.getD x6 dPar).value))) rfl rfl (r_cellw (Rs.cell ((hm14.see 0 rfl)) ePar_len dPar x6 (by omega) 1 _ rfl) Tryd.underlying9 rfl rfl rfl) ?_
    simp only [nz1, nz2, nz3]
    refine lvw 58 (.int .i64 ((((l.getD x6 dPar).value).length : Nat) : Int)) rfl rfl (t_len rfl Tryd.underlying9 rfl) ?_
    simp only [nz1, nz2, nz3]
    refine lvw 59 (.int .i64 ((((x5 + (((l.getD x6 dPar).key).length)) + (((l.getD x6 dPar).value).length)) : Nat) : Int)) rfl rfl (r_add (x5 + (((l.getD x6 dPar).key).length)) (((l.getD x6 dPar).value).length) (show ((x5 + (((l.getD x6 dPar).key).length)) + (((l.getD x6 dPar).value).length)) < 9223372036854775808 from by omega) rfl rfl rfl) ?_
    simp only [nz1, nz2, nz3]
    refine lvw 3 (.int .i64 ((((x5 + (((l.getD x6 dPar).key).length)) + (((l.getD x6 dPar).value).length)) : Nat) : Int)) rfl rfl (run_as rfl rfl) ?_
    simp only [nz1, nz2, nz3]
    refine wpList_nil ?_
    refine blk_n ?_
    refine then_n (hK21 _ _ ?_)
    refine wp_region_lit ?_
    refine lvw 9 (.int .i64 ((x6 : Nat) : Int)) rfl rfl (run_mv rfl rfl) ?_
    simp only [nz1, nz2, nz3]
    refine lvw 10 (.int .i64 (((x6 + 1) : Nat) : Int)) rfl rfl (r_add x6 1 (show (x6 + 1) < 9223372036854775808 from by omega) rfl rfl rfl) ?_
    simp only [nz1, nz2, nz3]
    refine lvw 4 (.int .i64 (((x6 + 1) : Nat) : Int)) rfl rfl (run_as rfl rfl) ?_
    simp only [nz1, nz2, nz3]
    refine wpList_nil ?_
    refine then_n (hR15 _ _ _ ⟨k8, ((x5 + (((l.getD x6 dPar).key).length)) + (((l.getD x6 dPar).value).length)), (x6 + 1), (fun qq => bif Nat.blt qq 24 then List.getD [u0 0, .int .i64 ((x6 : Nat) : Int), lv0, .int .i64 ((l.length : Nat) : Int), .bool (decide (x6 < l.length)), .int .i64 ((x6 : Nat) : Int), .int .i64 (((x6 + 1) : Nat) : Int), lv0, .int .i64 ((x6 : Nat) : Int), .pointer (some ⟨(bk lv0), (po lv0 + x6 * 2), none⟩), .pointer (some ⟨(bk lv0), ((po lv0 + x6 * 2) + 0), none⟩), .string (tx ((l.getD x6 dPar).key)), .int .i64 ((((l.getD x6 dPar).key).length : Nat) : Int), .int .i64 ((x5 : Nat) : Int), .int .i64 (((20000 : Int) - ((x5 : Nat) : Int))), .bool false, .bool false, lv0, .int .i64 ((x6 : Nat) : Int), .pointer (some ⟨(bk lv0), (po lv0 + x6 * 2), none⟩), .pointer (some ⟨(bk lv0), ((po lv0 + x6 * 2) + 1), none⟩), .string (tx ((l.getD x6 dPar).value)), .int .i64 ((((l.getD x6 dPar).value).length : Nat) : Int), .int .i64 ((x5 : Nat) : Int)] qq undef else bif Nat.blt qq 48 then List.getD [.int .i64 (((20000 : Int) - ((x5 : Nat) : Int))), .bool false, .bool false, .bool false, .int .i64 ((x6 : Nat) : Int), .bool (decide (500 < x6)), .bool (decide (500 < x6)), .int .i64 ((x5 : Nat) : Int), lv0, .int .i64 ((x6 : Nat) : Int), .pointer (some ⟨(bk lv0), (po lv0 + x6 * 2), none⟩), .pointer (some ⟨(bk lv0), ((po lv0 + x6 * 2) + 0), none⟩), .string (tx ((l.getD x6 dPar).key)), .int .i64 ((((l.getD x6 dPar).key).length : Nat) : Int), .int .i64 (((x5 + (((l.getD x6 dPar).key).length)) : Nat) : Int), lv0, .int .i64 ((x6 : Nat) : Int), .pointer (some ⟨(bk lv0), (po lv0 + x6 * 2), none⟩), .pointer (some ⟨(bk lv0), ((po lv0 + x6 * 2) + 1), none⟩), .string (tx ((l.getD x6 dPar).value)), .int .i64 ((((l.getD x6 dPar).value).length : Nat) : Int), .int .i64 (((x5 + (((l.getD x6 dPar).key).length)) : Nat) : Int), .int .i64 (((20000 : Int) - (((x5 + (((l.getD x6 dPar).key).length)) : Nat) : Int))), .bool (decide (((20000 : Int) - (((x5 + (((l.getD x6 dPar).key).length)) : Nat) : Int)) < ((((l.getD x6 dPar).value).length : Nat) : Int)))] (qq - 24) undef else List.getD [.int .i64 (((x5 + (((l.getD x6 dPar).key).length)) : Nat) : Int), lv0, .int .i64 ((x6 : Nat) : Int), .pointer (some ⟨(bk lv0), (po lv0 + x6 * 2), none⟩), .pointer (some ⟨(bk lv0), ((po lv0 + x6 * 2) + 1), none⟩), .string (tx ((l.getD x6 dPar).value)), .int .i64 ((((l.getD x6 dPar).value).length : Nat) : Int), .int .i64 ((((x5 + (((l.getD x6 dPar).key).length)) + (((l.getD x6 dPar).value).length)) : Nat) : Int)] (qq - 48) undef), rfl, (by first | omega | (simp; omega) | (simp at *; omega)), (hi9.trans (show great_m_b0 l (great_m_l0 l k8) x5 x6 = great_m_l0 l k8 (((x5 + (((l.getD x6 dPar).key).length)) + (((l.getD x6 dPar).value).length)), (x6 + 1)) from by unfold great_m_b0; rw [if_pos hc20, if_neg hs24, if_neg hs28, if_neg hc32, if_neg hc39] <;> rfl)), (by first | omega | (simp; done) | (simp; omega) | (simp at *; omega)), rfl, hm14⟩ ?_)
    omega
  rintro _ w43 ⟨y10, y11, yu0, hx12, hgr, rfl, hm44⟩
  have hq45 : great_m l = great_m_k0 l y10 y11 := (show great_m l = great_m_k0 l y10 y11 from by unfold great_m; rw [hx12] <;> rfl)
  refine then_n (hK3 _ _ ?_)
  refine wp_seq_k (fun K46 hK46 => ?_)
  refine wp_region_lit ?_
  refine lvw 2 (.bool false) rfl rfl (run_as rfl rfl) ?_
  simp only [nz1, nz2, nz3]
  refine wpList_nil ?_
  refine then_n (hK46 _ _ ?_)
  refine wp_ret ?_
  have he47 : great_m l = false := (hq45.trans (show great_m_k0 l y10 y11 = false from by unfold great_m_k0; rfl))
  exact ⟨rfl, .bool false, res_t rfl rfl, ⟨by rw [he47], hm44.below⟩⟩
theorem run_great {o : Oper} {a : Act} {w : World} {x0 : Operand} {v0 : Value} (ho : o.op = .call { callee := .value (.func 23), args := #[x0], argTypes := #[36] }) (h0 : a.eval x0 = v0) :
    (execOp a.eval o).run Tryd.prog w = .ok (.enter 23 #[v0]) w := by
  unfold execOp
  simp only [ho]
  have hf : a.eval (.func 23) = .func (.func 23) #[] #[] := rfl
  generalize a.eval = f at *
  go_simp
end Go.Proofs.YtglnifckngcpkaaDoor.Px
