/- Layer 9: HeaderDecodes. -/
import Derived.Test.YtglnifckngcpkaaDoorHdF
import Derived.Test.YtglnifckngcpkaaDoorHdZ
import Derived.Test.YtglnifckngcpkaaDoorHdEq
namespace Go.Proofs.YtglnifckngcpkaaDoor.Hd
open Go.RowKit
open Go.Proofs.YtglnifckngcpkaaDoor.Sym Go.Proofs.YtglnifckngcpkaaDoor.Mem
open Go.Proofs.YtglnifckngcpkaaDoor.Sx hiding Mm m_alloc m_store m_put m_call m_callx m_make m_append r_string r_ixS
set_option linter.unusedVariables false
attribute [local irreducible] octal_m put_m get_m hsum_m fits_m fill_m rep_m ib_m hcut_m cut_m hencode_m hdecode_m blank_m
attribute [local irreducible] rdecode_m rsum_m rblank_m hawake_m
attribute [local irreducible] wpList Oper.wp

def ldecodes_m (s : List UInt8) : Bool :=
  if 5000 < s.length then
    hawake_m
  else
    if hawake_m = true then
      if ((hdecode_m s).1) = ((rdecode_m s).1) then
        if (hdecode_m s).2 = (rdecode_m s).2 then
          if (hsum_m s) = (rsum_m s) then
            ((blank_m s) == (rblank_m s))
          else
            false
        else
          false
      else
        false
    else
      false

set_option maxHeartbeats 4000000 in
set_option maxRecDepth 100000 in
theorem ldecodes_any (s : List UInt8) (w : World)  (hT : Laid w) (hp0 : s.length ≤ 140737488355328) : Calls Tryd.prog 4 #[.string (tx s)] w (fun e w' => e = .returned (.bool ((ldecodes_m s))) ∧ Below w.heap.size w w') := by
  go_enter Tryd.func4, Tryd.ntmps4
  have hm00 := Mm.nil none (fun _ => True) w
  have hm0 := hm00
  refine wp_seq_k (fun K1 hK1 => ?_)
  refine wp_region_lit ?_
  refine lvw 2 (.bool false) rfl rfl (run_as rfl rfl) ?_
  simp only [nz1, nz2, nz3]
  refine wpList_nil ?_
  refine then_n (hK1 _ _ ?_)
  refine wp_seq_k (fun K2 hK2 => ?_)
  refine wp_seq_k (fun K3 hK3 => ?_)
  refine wp_region_lit ?_
  refine lvw 7 (.string (tx s)) rfl rfl (run_mv rfl rfl) ?_
  simp only [nz1, nz2, nz3]
  refine lvw 8 (.int .i64 ((s.length : Nat) : Int)) rfl rfl (t_len rfl Tryd.underlying9 rfl) ?_
  simp only [nz1, nz2, nz3]
  refine lvw 9 (.bool (decide (5000 < s.length))) rfl rfl (r_gtr s.length 5000 rfl rfl rfl) ?_
  simp only [nz1, nz2, nz3]
  refine wpList_nil ?_
  refine then_n (hK3 _ _ ?_)
  refine cond_d (5000 < s.length) rfl (fun hc4 => ?_) (fun hc4 => ?_)
  · refine wp_seq_k (fun K5 hK5 => ?_)
    refine wp_region_lit ?_
    refine lst rfl (m_call hm0 10 (.bool (hawake_m)) rfl (run_hawake rfl) (hawake_any   _  (Laid.below hT hm0.below) ) (fun w6 (hm7 : Mm none (fun _ => True) w w6 []) => ?_))
    simp only [nz1, nz2, nz3]
    refine lvw 2 (.bool (hawake_m)) rfl rfl (run_as rfl rfl) ?_
    simp only [nz1, nz2, nz3]
    refine wpList_nil ?_
    refine then_n (hK5 _ _ ?_)
    refine wp_ret ?_
    refine then_r ?_
    have he8 : ldecodes_m s = hawake_m := (show ldecodes_m s = hawake_m from by unfold ldecodes_m; rw [if_pos hc4] <;> rfl)
    exact ⟨rfl, .bool (hawake_m), res_t rfl rfl, ⟨by (rw [he8]; try rfl), hm7.below⟩⟩
  refine wp_skip ?_
  refine then_n (hK2 _ _ ?_)
  refine wp_seq_k (fun K9 hK9 => ?_)
  refine wp_region_lit ?_
  refine lvw 12 (.string (tx s)) rfl rfl (run_mv rfl rfl) ?_
  simp only [nz1, nz2, nz3]
  refine lst rfl (m_call hm0 13 (.tuple #[.agg #[.string (tx (((hdecode_m s).1).name)), .int .i64 (((hdecode_m s).1).mode), .int .i64 (((hdecode_m s).1).uid), .int .i64 (((hdecode_m s).1).gid), .int .i64 (((hdecode_m s).1).size), .int .i64 (((hdecode_m s).1).time), .int .u8 (((((hdecode_m s).1).flag).toNat : Nat) : Int), .string (tx (((hdecode_m s).1).link)), .string (tx (((hdecode_m s).1).pfx))], .int .i64 ((hdecode_m s).2)]) rfl (run_hdecode rfl rfl) (hdecode_any s  _  (Laid.below hT hm0.below) ) (fun w10 (hm11 : Mm none (fun _ => True) w w10 []) => ?_))
  simp only [nz1, nz2, nz3]
  refine lvw 11 (.tuple #[.agg #[.string (tx (((hdecode_m s).1).name)), .int .i64 (((hdecode_m s).1).mode), .int .i64 (((hdecode_m s).1).uid), .int .i64 (((hdecode_m s).1).gid), .int .i64 (((hdecode_m s).1).size), .int .i64 (((hdecode_m s).1).time), .int .u8 (((((hdecode_m s).1).flag).toNat : Nat) : Int), .string (tx (((hdecode_m s).1).link)), .string (tx (((hdecode_m s).1).pfx))], .int .i64 ((hdecode_m s).2)]) rfl rfl (run_mv rfl rfl) ?_
  simp only [nz1, nz2, nz3]
  refine lvw 14 (.agg #[.string (tx (((hdecode_m s).1).name)), .int .i64 (((hdecode_m s).1).mode), .int .i64 (((hdecode_m s).1).uid), .int .i64 (((hdecode_m s).1).gid), .int .i64 (((hdecode_m s).1).size), .int .i64 (((hdecode_m s).1).time), .int .u8 (((((hdecode_m s).1).flag).toNat : Nat) : Int), .string (tx (((hdecode_m s).1).link)), .string (tx (((hdecode_m s).1).pfx))]) rfl rfl (run_ex rfl rfl rfl) ?_
  simp only [nz1, nz2, nz3]
  refine lvw 15 (.int .i64 ((hdecode_m s).2)) rfl rfl (run_ex rfl rfl rfl) ?_
  simp only [nz1, nz2, nz3]
  refine lst rfl (m_alloc (c := #[.string (tx ([])), .int .i64 0, .int .i64 0, .int .i64 0, .int .i64 0, .int .i64 0, .int .u8 0, .string (tx ([])), .string (tx ([]))]) (T := 23) hm11 3 rfl (by unfold execOp; go_simp; try rfl) (fun g14 w12 (hm13 : Mm none (fun _ => True) w w12 [.blk g14 #[.string (tx ([])), .int .i64 0, .int .i64 0, .int .i64 0, .int .i64 0, .int .i64 0, .int .u8 0, .string (tx ([])), .string (tx ([]))] 23]) => ?_))
  simp only [nz1, nz2, nz3]
  refine lst rfl (m_store 0 23 _ _ 0 (.agg #[.string (tx (((hdecode_m s).1).name)), .int .i64 (((hdecode_m s).1).mode), .int .i64 (((hdecode_m s).1).uid), .int .i64 (((hdecode_m s).1).gid), .int .i64 (((hdecode_m s).1).size), .int .i64 (((hdecode_m s).1).time), .int .u8 (((((hdecode_m s).1).flag).toNat : Nat) : Int), .string (tx (((hdecode_m s).1).link)), .string (tx (((hdecode_m s).1).pfx))]) (old := #[.string (tx ([])), .int .i64 0, .int .i64 0, .int .i64 0, .int .i64 0, .int .i64 0, .int .u8 0, .string (tx ([])), .string (tx ([]))]) (new := #[.string (tx (((hdecode_m s).1).name)), .int .i64 (((hdecode_m s).1).mode), .int .i64 (((hdecode_m s).1).uid), .int .i64 (((hdecode_m s).1).gid), .int .i64 (((hdecode_m s).1).size), .int .i64 (((hdecode_m s).1).time), .int .u8 (((((hdecode_m s).1).flag).toNat : Nat) : Int), .string (tx (((hdecode_m s).1).link)), .string (tx (((hdecode_m s).1).pfx))]) hm13 rfl rfl rfl rfl rfl (by exact sz_23) (show 0 + 9 ≤ 9 from by decide) (by simp [Value.cells, Value.oneCell']) rfl (fun w15 (hm16 : Mm none (fun _ => True) w w15 [.blk g14 #[.string (tx (((hdecode_m s).1).name)), .int .i64 (((hdecode_m s).1).mode), .int .i64 (((hdecode_m s).1).uid), .int .i64 (((hdecode_m s).1).gid), .int .i64 (((hdecode_m s).1).size), .int .i64 (((hdecode_m s).1).time), .int .u8 (((((hdecode_m s).1).flag).toNat : Nat) : Int), .string (tx (((hdecode_m s).1).link)), .string (tx (((hdecode_m s).1).pfx))] 23]) => ?_))
  refine lvw 4 (.int .i64 ((hdecode_m s).2)) rfl rfl (run_as rfl rfl) ?_
  simp only [nz1, nz2, nz3]
  refine wpList_nil ?_
  refine then_n (hK9 _ _ ?_)
  refine wp_seq_k (fun K17 hK17 => ?_)
  refine wp_region_lit ?_
  refine lvw 17 (.string (tx s)) rfl rfl (run_mv rfl rfl) ?_
  simp only [nz1, nz2, nz3]
  refine lst rfl (m_call hm16 18 (.tuple #[.agg #[.string (tx (((rdecode_m s).1).name)), .int .i64 (((rdecode_m s).1).mode), .int .i64 (((rdecode_m s).1).uid), .int .i64 (((rdecode_m s).1).gid), .int .i64 (((rdecode_m s).1).size), .int .i64 (((rdecode_m s).1).time), .int .u8 (((((rdecode_m s).1).flag).toNat : Nat) : Int), .string (tx (((rdecode_m s).1).link)), .string (tx (((rdecode_m s).1).pfx))], .int .i64 ((rdecode_m s).2)]) rfl (run_rdecode rfl rfl) (rdecode_any s  _  ) (fun w18 (hm19 : Mm none (fun _ => True) w w18 [.blk g14 #[.string (tx (((hdecode_m s).1).name)), .int .i64 (((hdecode_m s).1).mode), .int .i64 (((hdecode_m s).1).uid), .int .i64 (((hdecode_m s).1).gid), .int .i64 (((hdecode_m s).1).size), .int .i64 (((hdecode_m s).1).time), .int .u8 (((((hdecode_m s).1).flag).toNat : Nat) : Int), .string (tx (((hdecode_m s).1).link)), .string (tx (((hdecode_m s).1).pfx))] 23]) => ?_))
  simp only [nz1, nz2, nz3]
  refine lvw 16 (.tuple #[.agg #[.string (tx (((rdecode_m s).1).name)), .int .i64 (((rdecode_m s).1).mode), .int .i64 (((rdecode_m s).1).uid), .int .i64 (((rdecode_m s).1).gid), .int .i64 (((rdecode_m s).1).size), .int .i64 (((rdecode_m s).1).time), .int .u8 (((((rdecode_m s).1).flag).toNat : Nat) : Int), .string (tx (((rdecode_m s).1).link)), .string (tx (((rdecode_m s).1).pfx))], .int .i64 ((rdecode_m s).2)]) rfl rfl (run_mv rfl rfl) ?_
  simp only [nz1, nz2, nz3]
  refine lvw 19 (.agg #[.string (tx (((rdecode_m s).1).name)), .int .i64 (((rdecode_m s).1).mode), .int .i64 (((rdecode_m s).1).uid), .int .i64 (((rdecode_m s).1).gid), .int .i64 (((rdecode_m s).1).size), .int .i64 (((rdecode_m s).1).time), .int .u8 (((((rdecode_m s).1).flag).toNat : Nat) : Int), .string (tx (((rdecode_m s).1).link)), .string (tx (((rdecode_m s).1).pfx))]) rfl rfl (run_ex rfl rfl rfl) ?_
  simp only [nz1, nz2, nz3]
  refine lvw 20 (.int .i64 ((rdecode_m s).2)) rfl rfl (run_ex rfl rfl rfl) ?_
  simp only [nz1, nz2, nz3]
  refine lst rfl (m_alloc (c := #[.string (tx ([])), .int .i64 0, .int .i64 0, .int .i64 0, .int .i64 0, .int .i64 0, .int .u8 0, .string (tx ([])), .string (tx ([]))]) (T := 23) hm19 5 rfl (by unfold execOp; go_simp; try rfl) (fun g22 w20 (hm21 : Mm none (fun _ => True) w w20 [.blk g14 #[.string (tx (((hdecode_m s).1).name)), .int .i64 (((hdecode_m s).1).mode), .int .i64 (((hdecode_m s).1).uid), .int .i64 (((hdecode_m s).1).gid), .int .i64 (((hdecode_m s).1).size), .int .i64 (((hdecode_m s).1).time), .int .u8 (((((hdecode_m s).1).flag).toNat : Nat) : Int), .string (tx (((hdecode_m s).1).link)), .string (tx (((hdecode_m s).1).pfx))] 23, .blk g22 #[.string (tx ([])), .int .i64 0, .int .i64 0, .int .i64 0, .int .i64 0, .int .i64 0, .int .u8 0, .string (tx ([])), .string (tx ([]))] 23]) => ?_))
  simp only [nz1, nz2, nz3]
  refine lst rfl (m_store 1 23 _ _ 0 (.agg #[.string (tx (((rdecode_m s).1).name)), .int .i64 (((rdecode_m s).1).mode), .int .i64 (((rdecode_m s).1).uid), .int .i64 (((rdecode_m s).1).gid), .int .i64 (((rdecode_m s).1).size), .int .i64 (((rdecode_m s).1).time), .int .u8 (((((rdecode_m s).1).flag).toNat : Nat) : Int), .string (tx (((rdecode_m s).1).link)), .string (tx (((rdecode_m s).1).pfx))]) (old := #[.string (tx ([])), .int .i64 0, .int .i64 0, .int .i64 0, .int .i64 0, .int .i64 0, .int .u8 0, .string (tx ([])), .string (tx ([]))]) (new := #[.string (tx (((rdecode_m s).1).name)), .int .i64 (((rdecode_m s).1).mode), .int .i64 (((rdecode_m s).1).uid), .int .i64 (((rdecode_m s).1).gid), .int .i64 (((rdecode_m s).1).size), .int .i64 (((rdecode_m s).1).time), .int .u8 (((((rdecode_m s).1).flag).toNat : Nat) : Int), .string (tx (((rdecode_m s).1).link)), .string (tx (((rdecode_m s).1).pfx))]) hm21 rfl rfl rfl rfl rfl (by exact sz_23) (show 0 + 9 ≤ 9 from by decide) (by simp [Value.cells, Value.oneCell']) rfl (fun w23 (hm24 : Mm none (fun _ => True) w w23 [.blk g14 #[.string (tx (((hdecode_m s).1).name)), .int .i64 (((hdecode_m s).1).mode), .int .i64 (((hdecode_m s).1).uid), .int .i64 (((hdecode_m s).1).gid), .int .i64 (((hdecode_m s).1).size), .int .i64 (((hdecode_m s).1).time), .int .u8 (((((hdecode_m s).1).flag).toNat : Nat) : Int), .string (tx (((hdecode_m s).1).link)), .string (tx (((hdecode_m s).1).pfx))] 23, .blk g22 #[.string (tx (((rdecode_m s).1).name)), .int .i64 (((rdecode_m s).1).mode), .int .i64 (((rdecode_m s).1).uid), .int .i64 (((rdecode_m s).1).gid), .int .i64 (((rdecode_m s).1).size), .int .i64 (((rdecode_m s).1).time), .int .u8 (((((rdecode_m s).1).flag).toNat : Nat) : Int), .string (tx (((rdecode_m s).1).link)), .string (tx (((rdecode_m s).1).pfx))] 23]) => ?_))
  refine lvw 6 (.int .i64 ((rdecode_m s).2)) rfl rfl (run_as rfl rfl) ?_
  simp only [nz1, nz2, nz3]
  refine wpList_nil ?_
  refine then_n (hK17 _ _ ?_)
  refine wp_seq_k (fun K25 hK25 => ?_)
  refine wp_region_lit ?_
  refine lst rfl (m_call hm24 21 (.bool (hawake_m)) rfl (run_hawake rfl) (hawake_any   _  (Laid.below hT hm24.below) ) (fun w26 (hm27 : Mm none (fun _ => True) w w26 [.blk g14 #[.string (tx (((hdecode_m s).1).name)), .int .i64 (((hdecode_m s).1).mode), .int .i64 (((hdecode_m s).1).uid), .int .i64 (((hdecode_m s).1).gid), .int .i64 (((hdecode_m s).1).size), .int .i64 (((hdecode_m s).1).time), .int .u8 (((((hdecode_m s).1).flag).toNat : Nat) : Int), .string (tx (((hdecode_m s).1).link)), .string (tx (((hdecode_m s).1).pfx))] 23, .blk g22 #[.string (tx (((rdecode_m s).1).name)), .int .i64 (((rdecode_m s).1).mode), .int .i64 (((rdecode_m s).1).uid), .int .i64 (((rdecode_m s).1).gid), .int .i64 (((rdecode_m s).1).size), .int .i64 (((rdecode_m s).1).time), .int .u8 (((((rdecode_m s).1).flag).toNat : Nat) : Int), .string (tx (((rdecode_m s).1).link)), .string (tx (((rdecode_m s).1).pfx))] 23]) => ?_))
  simp only [nz1, nz2, nz3]
  by_cases hs28 : hawake_m = true
  rotate_left
  · rw [(Bool.eq_false_iff.2 hs28 : hawake_m = false)]
    refine lvw 22 (.bool false) rfl rfl (run_mv rfl rfl) ?_
    simp only [nz1, nz2, nz3]
    refine lst_skip 23 rfl rfl ?_
    simp only [nz1, nz2, nz3]
    refine lst_skip 24 rfl rfl ?_
    simp only [nz1, nz2, nz3]
    refine lst_skip 25 rfl rfl ?_
    simp only [nz1, nz2, nz3]
    refine lvw 26 (.bool false) rfl rfl (run_pickf rfl rfl rfl) ?_
    simp only [nz1, nz2, nz3]
    refine lvw 27 (.bool false) rfl rfl (run_mv rfl rfl) ?_
    simp only [nz1, nz2, nz3]
    refine lst_skip 28 rfl rfl ?_
    simp only [nz1, nz2, nz3]
    refine lst_skip 29 rfl rfl ?_
    simp only [nz1, nz2, nz3]
    refine lst_skip 30 rfl rfl ?_
    simp only [nz1, nz2, nz3]
    refine lvw 31 (.bool false) rfl rfl (run_pickf rfl rfl rfl) ?_
    simp only [nz1, nz2, nz3]
    refine lvw 32 (.bool false) rfl rfl (run_mv rfl rfl) ?_
    simp only [nz1, nz2, nz3]
    refine lst_skip 33 rfl rfl ?_
    simp only [nz1, nz2, nz3]
    refine lst_skip 34 rfl rfl ?_
    simp only [nz1, nz2, nz3]
    refine lst_skip 35 rfl rfl ?_
    simp only [nz1, nz2, nz3]
    refine lst_skip 36 rfl rfl ?_
    simp only [nz1, nz2, nz3]
    refine lst_skip 37 rfl rfl ?_
    simp only [nz1, nz2, nz3]
    refine lvw 38 (.bool false) rfl rfl (run_pickf rfl rfl rfl) ?_
    simp only [nz1, nz2, nz3]
    refine lvw 39 (.bool false) rfl rfl (run_mv rfl rfl) ?_
    simp only [nz1, nz2, nz3]
    refine lst_skip 40 rfl rfl ?_
    simp only [nz1, nz2, nz3]
    refine lst_skip 41 rfl rfl ?_
    simp only [nz1, nz2, nz3]
    refine lst_skip 42 rfl rfl ?_
    simp only [nz1, nz2, nz3]
    refine lst_skip 43 rfl rfl ?_
    simp only [nz1, nz2, nz3]
    refine lst_skip 44 rfl rfl ?_
    simp only [nz1, nz2, nz3]
    refine lvw 45 (.bool false) rfl rfl (run_pickf rfl rfl rfl) ?_
    simp only [nz1, nz2, nz3]
    refine lvw 2 (.bool false) rfl rfl (run_as rfl rfl) ?_
    simp only [nz1, nz2, nz3]
    refine wpList_nil ?_
    refine then_n (hK25 _ _ ?_)
    refine wp_ret ?_
    have he46 : ldecodes_m s = false := (show ldecodes_m s = false from by unfold ldecodes_m; rw [if_neg hc4, if_neg hs28] <;> rfl)
    exact ⟨rfl, .bool false, res_t rfl rfl, ⟨by (rw [he46]; try rfl), hm27.below⟩⟩
  rw [(hs28 : hawake_m = true)]
  refine lvw 22 (.bool true) rfl rfl (run_mv rfl rfl) ?_
  simp only [nz1, nz2, nz3]
  refine lvw 23 (.agg #[.string (tx (((hdecode_m s).1).name)), .int .i64 (((hdecode_m s).1).mode), .int .i64 (((hdecode_m s).1).uid), .int .i64 (((hdecode_m s).1).gid), .int .i64 (((hdecode_m s).1).size), .int .i64 (((hdecode_m s).1).time), .int .u8 (((((hdecode_m s).1).flag).toNat : Nat) : Int), .string (tx (((hdecode_m s).1).link)), .string (tx (((hdecode_m s).1).pfx))]) rfl rfl (r_whole (hm27.at 0 rfl) Tryd.underlying23 rfl (by exact sz_23) rfl rfl) ?_
  simp only [nz1, nz2, nz3]
  refine lvw 24 (.agg #[.string (tx (((rdecode_m s).1).name)), .int .i64 (((rdecode_m s).1).mode), .int .i64 (((rdecode_m s).1).uid), .int .i64 (((rdecode_m s).1).gid), .int .i64 (((rdecode_m s).1).size), .int .i64 (((rdecode_m s).1).time), .int .u8 (((((rdecode_m s).1).flag).toNat : Nat) : Int), .string (tx (((rdecode_m s).1).link)), .string (tx (((rdecode_m s).1).pfx))]) rfl rfl (r_whole (hm27.at 1 rfl) Tryd.underlying23 rfl (by exact sz_23) rfl rfl) ?_
  simp only [nz1, nz2, nz3]
  refine lvb 25 (((hdecode_m s).1) = ((rdecode_m s).1)) rfl rfl (c23_eql ((hdecode_m s).1) ((rdecode_m s).1) rfl rfl rfl) (fun hs29 => ?_) (fun hs29 => ?_)
  rotate_left
  · simp only [nz1, nz2, nz3]
    refine lvw 26 (.bool false) rfl rfl (run_pick rfl rfl rfl) ?_
    simp only [nz1, nz2, nz3]
    refine lvw 27 (.bool false) rfl rfl (run_mv rfl rfl) ?_
    simp only [nz1, nz2, nz3]
    refine lst_skip 28 rfl rfl ?_
    simp only [nz1, nz2, nz3]
    refine lst_skip 29 rfl rfl ?_
    simp only [nz1, nz2, nz3]
    refine lst_skip 30 rfl rfl ?_
    simp only [nz1, nz2, nz3]
    refine lvw 31 (.bool false) rfl rfl (run_pickf rfl rfl rfl) ?_
    simp only [nz1, nz2, nz3]
    refine lvw 32 (.bool false) rfl rfl (run_mv rfl rfl) ?_
    simp only [nz1, nz2, nz3]
    refine lst_skip 33 rfl rfl ?_
    simp only [nz1, nz2, nz3]
    refine lst_skip 34 rfl rfl ?_
    simp only [nz1, nz2, nz3]
    refine lst_skip 35 rfl rfl ?_
    simp only [nz1, nz2, nz3]
    refine lst_skip 36 rfl rfl ?_
    simp only [nz1, nz2, nz3]
    refine lst_skip 37 rfl rfl ?_
    simp only [nz1, nz2, nz3]
    refine lvw 38 (.bool false) rfl rfl (run_pickf rfl rfl rfl) ?_
    simp only [nz1, nz2, nz3]
    refine lvw 39 (.bool false) rfl rfl (run_mv rfl rfl) ?_
    simp only [nz1, nz2, nz3]
    refine lst_skip 40 rfl rfl ?_
    simp only [nz1, nz2, nz3]
    refine lst_skip 41 rfl rfl ?_
    simp only [nz1, nz2, nz3]
    refine lst_skip 42 rfl rfl ?_
    simp only [nz1, nz2, nz3]
    refine lst_skip 43 rfl rfl ?_
    simp only [nz1, nz2, nz3]
    refine lst_skip 44 rfl rfl ?_
    simp only [nz1, nz2, nz3]
    refine lvw 45 (.bool false) rfl rfl (run_pickf rfl rfl rfl) ?_
    simp only [nz1, nz2, nz3]
    refine lvw 2 (.bool false) rfl rfl (run_as rfl rfl) ?_
    simp only [nz1, nz2, nz3]
    refine wpList_nil ?_
    refine then_n (hK25 _ _ ?_)
    refine wp_ret ?_
    have he45 : ldecodes_m s = false := (show ldecodes_m s = false from by unfold ldecodes_m; rw [if_neg hc4, if_pos hs28, if_neg hs29] <;> rfl)
    exact ⟨rfl, .bool false, res_t rfl rfl, ⟨by (rw [he45]; try rfl), hm27.below⟩⟩
  simp only [nz1, nz2, nz3]
  refine lvw 26 (.bool true) rfl rfl (run_pick rfl rfl rfl) ?_
  simp only [nz1, nz2, nz3]
  refine lvw 27 (.bool true) rfl rfl (run_mv rfl rfl) ?_
  simp only [nz1, nz2, nz3]
  refine lvw 28 (.int .i64 ((hdecode_m s).2)) rfl rfl (run_mv rfl rfl) ?_
  simp only [nz1, nz2, nz3]
  refine lvw 29 (.int .i64 ((rdecode_m s).2)) rfl rfl (run_mv rfl rfl) ?_
  simp only [nz1, nz2, nz3]
  refine lvb 30 ((hdecode_m s).2 = (rdecode_m s).2) rfl rfl (z_eql ((hdecode_m s).2) ((rdecode_m s).2) rfl rfl rfl) (fun hs30 => ?_) (fun hs30 => ?_)
  rotate_left
  · simp only [nz1, nz2, nz3]
    refine lvw 31 (.bool false) rfl rfl (run_pick rfl rfl rfl) ?_
    simp only [nz1, nz2, nz3]
    refine lvw 32 (.bool false) rfl rfl (run_mv rfl rfl) ?_
    simp only [nz1, nz2, nz3]
    refine lst_skip 33 rfl rfl ?_
    simp only [nz1, nz2, nz3]
    refine lst_skip 34 rfl rfl ?_
    simp only [nz1, nz2, nz3]
    refine lst_skip 35 rfl rfl ?_
    simp only [nz1, nz2, nz3]
    refine lst_skip 36 rfl rfl ?_
    simp only [nz1, nz2, nz3]
    refine lst_skip 37 rfl rfl ?_
    simp only [nz1, nz2, nz3]
    refine lvw 38 (.bool false) rfl rfl (run_pickf rfl rfl rfl) ?_
    simp only [nz1, nz2, nz3]
    refine lvw 39 (.bool false) rfl rfl (run_mv rfl rfl) ?_
    simp only [nz1, nz2, nz3]
    refine lst_skip 40 rfl rfl ?_
    simp only [nz1, nz2, nz3]
    refine lst_skip 41 rfl rfl ?_
    simp only [nz1, nz2, nz3]
    refine lst_skip 42 rfl rfl ?_
    simp only [nz1, nz2, nz3]
    refine lst_skip 43 rfl rfl ?_
    simp only [nz1, nz2, nz3]
    refine lst_skip 44 rfl rfl ?_
    simp only [nz1, nz2, nz3]
    refine lvw 45 (.bool false) rfl rfl (run_pickf rfl rfl rfl) ?_
    simp only [nz1, nz2, nz3]
    refine lvw 2 (.bool false) rfl rfl (run_as rfl rfl) ?_
    simp only [nz1, nz2, nz3]
    refine wpList_nil ?_
    refine then_n (hK25 _ _ ?_)
    refine wp_ret ?_
    have he44 : ldecodes_m s = false := (show ldecodes_m s = false from by unfold ldecodes_m; rw [if_neg hc4, if_pos hs28, if_pos hs29, if_neg hs30] <;> rfl)
    exact ⟨rfl, .bool false, res_t rfl rfl, ⟨by (rw [he44]; try rfl), hm27.below⟩⟩
  simp only [nz1, nz2, nz3]
  refine lvw 31 (.bool true) rfl rfl (run_pick rfl rfl rfl) ?_
  simp only [nz1, nz2, nz3]
  refine lvw 32 (.bool true) rfl rfl (run_mv rfl rfl) ?_
  simp only [nz1, nz2, nz3]
  refine lvw 33 (.string (tx s)) rfl rfl (run_mv rfl rfl) ?_
  simp only [nz1, nz2, nz3]
  refine lst rfl (m_call hm27 34 (.int .i64 ((hsum_m s))) rfl (run_hsum rfl rfl) (hsum_any s  _  ) (fun w31 (hm32 : Mm none (fun _ => True) w w31 [.blk g14 #[.string (tx (((hdecode_m s).1).name)), .int .i64 (((hdecode_m s).1).mode), .int .i64 (((hdecode_m s).1).uid), .int .i64 (((hdecode_m s).1).gid), .int .i64 (((hdecode_m s).1).size), .int .i64 (((hdecode_m s).1).time), .int .u8 (((((hdecode_m s).1).flag).toNat : Nat) : Int), .string (tx (((hdecode_m s).1).link)), .string (tx (((hdecode_m s).1).pfx))] 23, .blk g22 #[.string (tx (((rdecode_m s).1).name)), .int .i64 (((rdecode_m s).1).mode), .int .i64 (((rdecode_m s).1).uid), .int .i64 (((rdecode_m s).1).gid), .int .i64 (((rdecode_m s).1).size), .int .i64 (((rdecode_m s).1).time), .int .u8 (((((rdecode_m s).1).flag).toNat : Nat) : Int), .string (tx (((rdecode_m s).1).link)), .string (tx (((rdecode_m s).1).pfx))] 23]) => ?_))
  have hf33 : 0 ≤ (hsum_m s) ∧ (hsum_m s) ≤ 131072 := hsum_rng s
  simp only [nz1, nz2, nz3]
  refine lvw 35 (.string (tx s)) rfl rfl (run_mv rfl rfl) ?_
  simp only [nz1, nz2, nz3]
  refine lst rfl (m_call hm32 36 (.int .i64 ((rsum_m s))) rfl (run_rsum rfl rfl) (rsum_any s  _  ) (fun w34 (hm35 : Mm none (fun _ => True) w w34 [.blk g14 #[.string (tx (((hdecode_m s).1).name)), .int .i64 (((hdecode_m s).1).mode), .int .i64 (((hdecode_m s).1).uid), .int .i64 (((hdecode_m s).1).gid), .int .i64 (((hdecode_m s).1).size), .int .i64 (((hdecode_m s).1).time), .int .u8 (((((hdecode_m s).1).flag).toNat : Nat) : Int), .string (tx (((hdecode_m s).1).link)), .string (tx (((hdecode_m s).1).pfx))] 23, .blk g22 #[.string (tx (((rdecode_m s).1).name)), .int .i64 (((rdecode_m s).1).mode), .int .i64 (((rdecode_m s).1).uid), .int .i64 (((rdecode_m s).1).gid), .int .i64 (((rdecode_m s).1).size), .int .i64 (((rdecode_m s).1).time), .int .u8 (((((rdecode_m s).1).flag).toNat : Nat) : Int), .string (tx (((rdecode_m s).1).link)), .string (tx (((rdecode_m s).1).pfx))] 23]) => ?_))
  have hf36 : 0 ≤ (rsum_m s) ∧ (rsum_m s) ≤ 131072 := rsum_rng s
  simp only [nz1, nz2, nz3]
  refine lvb 37 ((hsum_m s) = (rsum_m s)) rfl rfl (z_eql (hsum_m s) (rsum_m s) rfl rfl rfl) (fun hs37 => ?_) (fun hs37 => ?_)
  · simp only [nz1, nz2, nz3]
    refine lvw 38 (.bool true) rfl rfl (run_pick rfl rfl rfl) ?_
    simp only [nz1, nz2, nz3]
    refine lvw 39 (.bool true) rfl rfl (run_mv rfl rfl) ?_
    simp only [nz1, nz2, nz3]
    refine lvw 40 (.string (tx s)) rfl rfl (run_mv rfl rfl) ?_
    simp only [nz1, nz2, nz3]
    refine lst rfl (m_call hm35 41 (.bool ((blank_m s))) rfl (run_blank rfl rfl) (blank_any s  _  ) (fun w38 (hm39 : Mm none (fun _ => True) w w38 [.blk g14 #[.string (tx (((hdecode_m s).1).name)), .int .i64 (((hdecode_m s).1).mode), .int .i64 (((hdecode_m s).1).uid), .int .i64 (((hdecode_m s).1).gid), .int .i64 (((hdecode_m s).1).size), .int .i64 (((hdecode_m s).1).time), .int .u8 (((((hdecode_m s).1).flag).toNat : Nat) : Int), .string (tx (((hdecode_m s).1).link)), .string (tx (((hdecode_m s).1).pfx))] 23, .blk g22 #[.string (tx (((rdecode_m s).1).name)), .int .i64 (((rdecode_m s).1).mode), .int .i64 (((rdecode_m s).1).uid), .int .i64 (((rdecode_m s).1).gid), .int .i64 (((rdecode_m s).1).size), .int .i64 (((rdecode_m s).1).time), .int .u8 (((((rdecode_m s).1).flag).toNat : Nat) : Int), .string (tx (((rdecode_m s).1).link)), .string (tx (((rdecode_m s).1).pfx))] 23]) => ?_))
    simp only [nz1, nz2, nz3]
    refine lvw 42 (.string (tx s)) rfl rfl (run_mv rfl rfl) ?_
    simp only [nz1, nz2, nz3]
    refine lst rfl (m_call hm39 43 (.bool ((rblank_m s))) rfl (run_rblank rfl rfl) (rblank_any s  _  (by first | omega | assumption | (simp; done) | (simp; omega) | (simp only [List.length_append, List.length_cons, List.length_nil]; omega) | (simp only [List.length_append, List.length_cons, List.length_nil] at *; omega) | decide)) (fun w40 (hm41 : Mm none (fun _ => True) w w40 [.blk g14 #[.string (tx (((hdecode_m s).1).name)), .int .i64 (((hdecode_m s).1).mode), .int .i64 (((hdecode_m s).1).uid), .int .i64 (((hdecode_m s).1).gid), .int .i64 (((hdecode_m s).1).size), .int .i64 (((hdecode_m s).1).time), .int .u8 (((((hdecode_m s).1).flag).toNat : Nat) : Int), .string (tx (((hdecode_m s).1).link)), .string (tx (((hdecode_m s).1).pfx))] 23, .blk g22 #[.string (tx (((rdecode_m s).1).name)), .int .i64 (((rdecode_m s).1).mode), .int .i64 (((rdecode_m s).1).uid), .int .i64 (((rdecode_m s).1).gid), .int .i64 (((rdecode_m s).1).size), .int .i64 (((rdecode_m s).1).time), .int .u8 (((((rdecode_m s).1).flag).toNat : Nat) : Int), .string (tx (((rdecode_m s).1).link)), .string (tx (((rdecode_m s).1).pfx))] 23]) => ?_))
    simp only [nz1, nz2, nz3]
    refine lvw 44 (.bool ((blank_m s) == (rblank_m s))) rfl rfl (b_eql (blank_m s) (rblank_m s) rfl rfl rfl) ?_
    simp only [nz1, nz2, nz3]
    refine lvw 45 (.bool ((blank_m s) == (rblank_m s))) rfl rfl (run_pick rfl rfl rfl) ?_
    simp only [nz1, nz2, nz3]
    refine lvw 2 (.bool ((blank_m s) == (rblank_m s))) rfl rfl (run_as rfl rfl) ?_
    simp only [nz1, nz2, nz3]
    refine wpList_nil ?_
    refine then_n (hK25 _ _ ?_)
    refine wp_ret ?_
    have he42 : ldecodes_m s = ((blank_m s) == (rblank_m s)) := (show ldecodes_m s = ((blank_m s) == (rblank_m s)) from by unfold ldecodes_m; rw [if_neg hc4, if_pos hs28, if_pos hs29, if_pos hs30, if_pos hs37] <;> rfl)
    exact ⟨rfl, .bool ((blank_m s) == (rblank_m s)), res_t rfl rfl, ⟨by (rw [he42]; try rfl), hm41.below⟩⟩
  simp only [nz1, nz2, nz3]
  refine lvw 38 (.bool false) rfl rfl (run_pick rfl rfl rfl) ?_
  simp only [nz1, nz2, nz3]
  refine lvw 39 (.bool false) rfl rfl (run_mv rfl rfl) ?_
  simp only [nz1, nz2, nz3]
  refine lst_skip 40 rfl rfl ?_
  simp only [nz1, nz2, nz3]
  refine lst_skip 41 rfl rfl ?_
  simp only [nz1, nz2, nz3]
  refine lst_skip 42 rfl rfl ?_
  simp only [nz1, nz2, nz3]
  refine lst_skip 43 rfl rfl ?_
  simp only [nz1, nz2, nz3]
  refine lst_skip 44 rfl rfl ?_
  simp only [nz1, nz2, nz3]
  refine lvw 45 (.bool false) rfl rfl (run_pickf rfl rfl rfl) ?_
  simp only [nz1, nz2, nz3]
  refine lvw 2 (.bool false) rfl rfl (run_as rfl rfl) ?_
  simp only [nz1, nz2, nz3]
  refine wpList_nil ?_
  refine then_n (hK25 _ _ ?_)
  refine wp_ret ?_
  have he43 : ldecodes_m s = false := (show ldecodes_m s = false from by unfold ldecodes_m; rw [if_neg hc4, if_pos hs28, if_pos hs29, if_pos hs30, if_neg hs37] <;> rfl)
  exact ⟨rfl, .bool false, res_t rfl rfl, ⟨by (rw [he43]; try rfl), hm35.below⟩⟩
theorem run_ldecodes {o : Oper} {a : Act} {w : World} {x0 : Operand} {v0 : Value} (ho : o.op = .call { callee := .value (.func 4), args := #[x0], argTypes := #[9] }) (h0 : a.eval x0 = v0) :
    (execOp a.eval o).run Tryd.prog w = .ok (.enter 4 #[v0]) w := by
  unfold execOp
  simp only [ho]
  have hf : a.eval (.func 4) = .func (.func 4) #[] #[] := rfl
  generalize a.eval = f at *
  go_simp
end Go.Proofs.YtglnifckngcpkaaDoor.Hd
