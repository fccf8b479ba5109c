/- Layer 9: HeaderEncodes. -/
import Derived.Test.YtglnifckngcpkaaDoorHdF
import Derived.Test.YtglnifckngcpkaaDoorHdY
import Derived.Test.YtglnifckngcpkaaDoorHdEq
namespace Go.Proofs.YtglnifckngcpkaaDoor.Hd
open Go.RowKit
open Go.Proofs.YtglnifckngcpkaaDoor.Sym Go.Proofs.YtglnifckngcpkaaDoor.Mem
open Go.Proofs.YtglnifckngcpkaaDoor.Sx hiding Mm m_alloc m_store m_put m_call m_callx m_make m_append r_string r_ixS
set_option linter.unusedVariables false
attribute [local irreducible] octal_m put_m get_m hsum_m fits_m fill_m rep_m ib_m hcut_m cut_m hencode_m hdecode_m blank_m
attribute [local irreducible] rencode_m hawake_m
attribute [local irreducible] wpList Oper.wp

def lencodes_m (h : Hdr) : Bool :=
  if hawake_m = true then
    if (hencode_m h).1 = (rencode_m h).1 then
      if (hencode_m h).2 = (rencode_m h).2 then
        if ¬ (hencode_m h).2 = 0 then
          true
        else
          if (hdecode_m ((hencode_m h).1)).2 = 0 then
            if ((hdecode_m ((hencode_m h).1)).1) = h then
              (decide (((hencode_m h).1).length = 512))
            else
              false
          else
            false
      else
        false
    else
      false
  else
    false

set_option maxHeartbeats 4000000 in
set_option maxRecDepth 100000 in
theorem lencodes_any (h : Hdr) (w : World)  (hT : Laid w) (hp0 : -9223372036854775808 ≤ h.mode) (hp1 : h.mode ≤ 9223372036854775807) (hp2 : -9223372036854775808 ≤ h.uid) (hp3 : h.uid ≤ 9223372036854775807) (hp4 : -9223372036854775808 ≤ h.gid) (hp5 : h.gid ≤ 9223372036854775807) (hp6 : -9223372036854775808 ≤ h.size) (hp7 : h.size ≤ 9223372036854775807) (hp8 : -9223372036854775808 ≤ h.time) (hp9 : h.time ≤ 9223372036854775807) : Calls Tryd.prog 3 #[.agg #[.string (tx h.name), .int .i64 (h.mode), .int .i64 (h.uid), .int .i64 (h.gid), .int .i64 (h.size), .int .i64 (h.time), .int .u8 ((h.flag.toNat : Nat) : Int), .string (tx h.link), .string (tx h.pfx)]] w (fun e w' => e = .returned (.bool ((lencodes_m h))) ∧ Below w.heap.size w w') := by
  go_enter Tryd.func3, Tryd.ntmps3
  have hm00 := Mm.nil none (fun _ => True) w
  have hm0 := hm00
  refine wp_seq_k (fun K1 hK1 => ?_)
  refine wp_region_lit ?_
  refine lst rfl (m_alloc (c := #[.string (tx h.name), .int .i64 (h.mode), .int .i64 (h.uid), .int .i64 (h.gid), .int .i64 (h.size), .int .i64 (h.time), .int .u8 ((h.flag.toNat : Nat) : Int), .string (tx h.link), .string (tx h.pfx)]) (T := 23) hm0 1 rfl (run_box rfl rfl) (fun g4 w2 (hm3 : Mm none (fun _ => True) w w2 [.blk g4 #[.string (tx h.name), .int .i64 (h.mode), .int .i64 (h.uid), .int .i64 (h.gid), .int .i64 (h.size), .int .i64 (h.time), .int .u8 ((h.flag.toNat : Nat) : Int), .string (tx h.link), .string (tx h.pfx)] 23]) => ?_))
  simp only [nz1, nz2, nz3]
  refine lvw 2 (.bool false) rfl rfl (run_as rfl rfl) ?_
  simp only [nz1, nz2, nz3]
  refine wpList_nil ?_
  refine then_n (hK1 _ _ ?_)
  refine wp_seq_k (fun K5 hK5 => ?_)
  refine wp_region_lit ?_
  refine lvw 10 (.agg #[.string (tx h.name), .int .i64 (h.mode), .int .i64 (h.uid), .int .i64 (h.gid), .int .i64 (h.size), .int .i64 (h.time), .int .u8 ((h.flag.toNat : Nat) : Int), .string (tx h.link), .string (tx h.pfx)]) rfl rfl (r_whole (hm3.at 0 rfl) Tryd.underlying23 rfl (by exact sz_23) rfl rfl) ?_
  simp only [nz1, nz2, nz3]
  refine lst rfl (m_call hm3 11 (.tuple #[.string (tx ((hencode_m h).1)), .int .i64 ((hencode_m h).2)]) rfl (run_hencode rfl rfl) (hencode_any h  _  (Laid.below hT hm3.below) (by first | omega | assumption | (simp; done) | (simp; omega) | (simp only [List.length_append, List.length_cons, List.length_nil]; omega) | (simp only [List.length_append, List.length_cons, List.length_nil] at *; omega) | decide) (by first | omega | assumption | (simp; done) | (simp; omega) | (simp only [List.length_append, List.length_cons, List.length_nil]; omega) | (simp only [List.length_append, List.length_cons, List.length_nil] at *; omega) | decide) (by first | omega | assumption | (simp; done) | (simp; omega) | (simp only [List.length_append, List.length_cons, List.length_nil]; omega) | (simp only [List.length_append, List.length_cons, List.length_nil] at *; omega) | decide) (by first | omega | assumption | (simp; done) | (simp; omega) | (simp only [List.length_append, List.length_cons, List.length_nil]; omega) | (simp only [List.length_append, List.length_cons, List.length_nil] at *; omega) | decide) (by first | omega | assumption | (simp; done) | (simp; omega) | (simp only [List.length_append, List.length_cons, List.length_nil]; omega) | (simp only [List.length_append, List.length_cons, List.length_nil] at *; omega) | decide) (by first | omega | assumption | (simp; done) | (simp; omega) | (simp only [List.length_append, List.length_cons, List.length_nil]; omega) | (simp only [List.length_append, List.length_cons, List.length_nil] at *; omega) | decide) (by first | omega | assumption | (simp; done) | (simp; omega) | (simp only [List.length_append, List.length_cons, List.length_nil]; omega) | (simp only [List.length_append, List.length_cons, List.length_nil] at *; omega) | decide) (by first | omega | assumption | (simp; done) | (simp; omega) | (simp only [List.length_append, List.length_cons, List.length_nil]; omega) | (simp only [List.length_append, List.length_cons, List.length_nil] at *; omega) | decide) (by first | omega | assumption | (simp; done) | (simp; omega) | (simp only [List.length_append, List.length_cons, List.length_nil]; omega) | (simp only [List.length_append, List.length_cons, List.length_nil] at *; omega) | decide) (by first | omega | assumption | (simp; done) | (simp; omega) | (simp only [List.length_append, List.length_cons, List.length_nil]; omega) | (simp only [List.length_append, List.length_cons, List.length_nil] at *; omega) | decide)) (fun w6 (hm7 : Mm none (fun _ => True) w w6 [.blk g4 #[.string (tx h.name), .int .i64 (h.mode), .int .i64 (h.uid), .int .i64 (h.gid), .int .i64 (h.size), .int .i64 (h.time), .int .u8 ((h.flag.toNat : Nat) : Int), .string (tx h.link), .string (tx h.pfx)] 23]) => ?_))
  have hf8 : (hencode_m h).1.length ≤ 512 := hencode_len h
  have hf9 : ¬ (hencode_m h).2 = 0 ∨ (h.name.length ≤ 100 ∧ h.link.length ≤ 100 ∧ h.pfx.length ≤ 155) := hencode_fit h
  simp only [nz1, nz2, nz3]
  refine lvw 9 (.tuple #[.string (tx ((hencode_m h).1)), .int .i64 ((hencode_m h).2)]) rfl rfl (run_mv rfl rfl) ?_
  simp only [nz1, nz2, nz3]
  refine lvw 12 (.string (tx ((hencode_m h).1))) rfl rfl (run_ex rfl rfl rfl) ?_
  simp only [nz1, nz2, nz3]
  refine lvw 13 (.int .i64 ((hencode_m h).2)) rfl rfl (run_ex rfl rfl rfl) ?_
  simp only [nz1, nz2, nz3]
  refine lvw 3 (.string (tx ((hencode_m h).1))) rfl rfl (run_as rfl rfl) ?_
  simp only [nz1, nz2, nz3]
  refine lvw 4 (.int .i64 ((hencode_m h).2)) rfl rfl (run_as rfl rfl) ?_
  simp only [nz1, nz2, nz3]
  refine wpList_nil ?_
  refine then_n (hK5 _ _ ?_)
  refine wp_seq_k (fun K10 hK10 => ?_)
  refine wp_region_lit ?_
  refine lvw 15 (.agg #[.string (tx h.name), .int .i64 (h.mode), .int .i64 (h.uid), .int .i64 (h.gid), .int .i64 (h.size), .int .i64 (h.time), .int .u8 ((h.flag.toNat : Nat) : Int), .string (tx h.link), .string (tx h.pfx)]) rfl rfl (r_whole (hm7.at 0 rfl) Tryd.underlying23 rfl (by exact sz_23) rfl rfl) ?_
  simp only [nz1, nz2, nz3]
  refine lst rfl (m_call hm7 16 (.tuple #[.string (tx ((rencode_m h).1)), .int .i64 ((rencode_m h).2)]) rfl (run_rencode rfl rfl) (rencode_any h  _  (by first | omega | assumption | (simp; done) | (simp; omega) | (simp only [List.length_append, List.length_cons, List.length_nil]; omega) | (simp only [List.length_append, List.length_cons, List.length_nil] at *; omega) | decide) (by first | omega | assumption | (simp; done) | (simp; omega) | (simp only [List.length_append, List.length_cons, List.length_nil]; omega) | (simp only [List.length_append, List.length_cons, List.length_nil] at *; omega) | decide) (by first | omega | assumption | (simp; done) | (simp; omega) | (simp only [List.length_append, List.length_cons, List.length_nil]; omega) | (simp only [List.length_append, List.length_cons, List.length_nil] at *; omega) | decide) (by first | omega | assumption | (simp; done) | (simp; omega) | (simp only [List.length_append, List.length_cons, List.length_nil]; omega) | (simp only [List.length_append, List.length_cons, List.length_nil] at *; omega) | decide) (by first | omega | assumption | (simp; done) | (simp; omega) | (simp only [List.length_append, List.length_cons, List.length_nil]; omega) | (simp only [List.length_append, List.length_cons, List.length_nil] at *; omega) | decide) (by first | omega | assumption | (simp; done) | (simp; omega) | (simp only [List.length_append, List.length_cons, List.length_nil]; omega) | (simp only [List.length_append, List.length_cons, List.length_nil] at *; omega) | decide) (by first | omega | assumption | (simp; done) | (simp; omega) | (simp only [List.length_append, List.length_cons, List.length_nil]; omega) | (simp only [List.length_append, List.length_cons, List.length_nil] at *; omega) | decide) (by first | omega | assumption | (simp; done) | (simp; omega) | (simp only [List.length_append, List.length_cons, List.length_nil]; omega) | (simp only [List.length_append, List.length_cons, List.length_nil] at *; omega) | decide) (by first | omega | assumption | (simp; done) | (simp; omega) | (simp only [List.length_append, List.length_cons, List.length_nil]; omega) | (simp only [List.length_append, List.length_cons, List.length_nil] at *; omega) | decide) (by first | omega | assumption | (simp; done) | (simp; omega) | (simp only [List.length_append, List.length_cons, List.length_nil]; omega) | (simp only [List.length_append, List.length_cons, List.length_nil] at *; omega) | decide)) (fun w11 (hm12 : Mm none (fun _ => True) w w11 [.blk g4 #[.string (tx h.name), .int .i64 (h.mode), .int .i64 (h.uid), .int .i64 (h.gid), .int .i64 (h.size), .int .i64 (h.time), .int .u8 ((h.flag.toNat : Nat) : Int), .string (tx h.link), .string (tx h.pfx)] 23]) => ?_))
  simp only [nz1, nz2, nz3]
  refine lvw 14 (.tuple #[.string (tx ((rencode_m h).1)), .int .i64 ((rencode_m h).2)]) rfl rfl (run_mv rfl rfl) ?_
  simp only [nz1, nz2, nz3]
  refine lvw 17 (.string (tx ((rencode_m h).1))) rfl rfl (run_ex rfl rfl rfl) ?_
  simp only [nz1, nz2, nz3]
  refine lvw 18 (.int .i64 ((rencode_m h).2)) rfl rfl (run_ex rfl rfl rfl) ?_
  simp only [nz1, nz2, nz3]
  refine lvw 5 (.string (tx ((rencode_m h).1))) rfl rfl (run_as rfl rfl) ?_
  simp only [nz1, nz2, nz3]
  refine lvw 6 (.int .i64 ((rencode_m h).2)) rfl rfl (run_as rfl rfl) ?_
  simp only [nz1, nz2, nz3]
  refine wpList_nil ?_
  refine then_n (hK10 _ _ ?_)
  refine wp_seq_k (fun K13 hK13 => ?_)
  refine wp_region_lit ?_
  refine lvw 20 (.string (tx ((hencode_m h).1))) rfl rfl (run_mv rfl rfl) ?_
  simp only [nz1, nz2, nz3]
  refine lst rfl (m_call hm12 21 (.tuple #[.agg #[.string (tx (((hdecode_m ((hencode_m h).1)).1).name)), .int .i64 (((hdecode_m ((hencode_m h).1)).1).mode), .int .i64 (((hdecode_m ((hencode_m h).1)).1).uid), .int .i64 (((hdecode_m ((hencode_m h).1)).1).gid), .int .i64 (((hdecode_m ((hencode_m h).1)).1).size), .int .i64 (((hdecode_m ((hencode_m h).1)).1).time), .int .u8 (((((hdecode_m ((hencode_m h).1)).1).flag).toNat : Nat) : Int), .string (tx (((hdecode_m ((hencode_m h).1)).1).link)), .string (tx (((hdecode_m ((hencode_m h).1)).1).pfx))], .int .i64 ((hdecode_m ((hencode_m h).1)).2)]) rfl (run_hdecode rfl rfl) (hdecode_any ((hencode_m h).1)  _  (Laid.below hT hm12.below) ) (fun w14 (hm15 : Mm none (fun _ => True) w w14 [.blk g4 #[.string (tx h.name), .int .i64 (h.mode), .int .i64 (h.uid), .int .i64 (h.gid), .int .i64 (h.size), .int .i64 (h.time), .int .u8 ((h.flag.toNat : Nat) : Int), .string (tx h.link), .string (tx h.pfx)] 23]) => ?_))
  simp only [nz1, nz2, nz3]
  refine lvw 19 (.tuple #[.agg #[.string (tx (((hdecode_m ((hencode_m h).1)).1).name)), .int .i64 (((hdecode_m ((hencode_m h).1)).1).mode), .int .i64 (((hdecode_m ((hencode_m h).1)).1).uid), .int .i64 (((hdecode_m ((hencode_m h).1)).1).gid), .int .i64 (((hdecode_m ((hencode_m h).1)).1).size), .int .i64 (((hdecode_m ((hencode_m h).1)).1).time), .int .u8 (((((hdecode_m ((hencode_m h).1)).1).flag).toNat : Nat) : Int), .string (tx (((hdecode_m ((hencode_m h).1)).1).link)), .string (tx (((hdecode_m ((hencode_m h).1)).1).pfx))], .int .i64 ((hdecode_m ((hencode_m h).1)).2)]) rfl rfl (run_mv rfl rfl) ?_
  simp only [nz1, nz2, nz3]
  refine lvw 22 (.agg #[.string (tx (((hdecode_m ((hencode_m h).1)).1).name)), .int .i64 (((hdecode_m ((hencode_m h).1)).1).mode), .int .i64 (((hdecode_m ((hencode_m h).1)).1).uid), .int .i64 (((hdecode_m ((hencode_m h).1)).1).gid), .int .i64 (((hdecode_m ((hencode_m h).1)).1).size), .int .i64 (((hdecode_m ((hencode_m h).1)).1).time), .int .u8 (((((hdecode_m ((hencode_m h).1)).1).flag).toNat : Nat) : Int), .string (tx (((hdecode_m ((hencode_m h).1)).1).link)), .string (tx (((hdecode_m ((hencode_m h).1)).1).pfx))]) rfl rfl (run_ex rfl rfl rfl) ?_
  simp only [nz1, nz2, nz3]
  refine lvw 23 (.int .i64 ((hdecode_m ((hencode_m h).1)).2)) rfl rfl (run_ex rfl rfl rfl) ?_
  simp only [nz1, nz2, nz3]
  refine lst rfl (m_alloc (c := #[.string (tx ([])), .int .i64 0, .int .i64 0, .int .i64 0, .int .i64 0, .int .i64 0, .int .u8 0, .string (tx ([])), .string (tx ([]))]) (T := 23) hm15 7 rfl (by unfold execOp; go_simp; try rfl) (fun g18 w16 (hm17 : Mm none (fun _ => True) w w16 [.blk g4 #[.string (tx h.name), .int .i64 (h.mode), .int .i64 (h.uid), .int .i64 (h.gid), .int .i64 (h.size), .int .i64 (h.time), .int .u8 ((h.flag.toNat : Nat) : Int), .string (tx h.link), .string (tx h.pfx)] 23, .blk g18 #[.string (tx ([])), .int .i64 0, .int .i64 0, .int .i64 0, .int .i64 0, .int .i64 0, .int .u8 0, .string (tx ([])), .string (tx ([]))] 23]) => ?_))
  simp only [nz1, nz2, nz3]
  refine lst rfl (m_store 1 23 _ _ 0 (.agg #[.string (tx (((hdecode_m ((hencode_m h).1)).1).name)), .int .i64 (((hdecode_m ((hencode_m h).1)).1).mode), .int .i64 (((hdecode_m ((hencode_m h).1)).1).uid), .int .i64 (((hdecode_m ((hencode_m h).1)).1).gid), .int .i64 (((hdecode_m ((hencode_m h).1)).1).size), .int .i64 (((hdecode_m ((hencode_m h).1)).1).time), .int .u8 (((((hdecode_m ((hencode_m h).1)).1).flag).toNat : Nat) : Int), .string (tx (((hdecode_m ((hencode_m h).1)).1).link)), .string (tx (((hdecode_m ((hencode_m h).1)).1).pfx))]) (old := #[.string (tx ([])), .int .i64 0, .int .i64 0, .int .i64 0, .int .i64 0, .int .i64 0, .int .u8 0, .string (tx ([])), .string (tx ([]))]) (new := #[.string (tx (((hdecode_m ((hencode_m h).1)).1).name)), .int .i64 (((hdecode_m ((hencode_m h).1)).1).mode), .int .i64 (((hdecode_m ((hencode_m h).1)).1).uid), .int .i64 (((hdecode_m ((hencode_m h).1)).1).gid), .int .i64 (((hdecode_m ((hencode_m h).1)).1).size), .int .i64 (((hdecode_m ((hencode_m h).1)).1).time), .int .u8 (((((hdecode_m ((hencode_m h).1)).1).flag).toNat : Nat) : Int), .string (tx (((hdecode_m ((hencode_m h).1)).1).link)), .string (tx (((hdecode_m ((hencode_m h).1)).1).pfx))]) hm17 rfl rfl rfl rfl rfl (by exact sz_23) (show 0 + 9 ≤ 9 from by decide) (by simp [Value.cells, Value.oneCell']) rfl (fun w19 (hm20 : Mm none (fun _ => True) w w19 [.blk g4 #[.string (tx h.name), .int .i64 (h.mode), .int .i64 (h.uid), .int .i64 (h.gid), .int .i64 (h.size), .int .i64 (h.time), .int .u8 ((h.flag.toNat : Nat) : Int), .string (tx h.link), .string (tx h.pfx)] 23, .blk g18 #[.string (tx (((hdecode_m ((hencode_m h).1)).1).name)), .int .i64 (((hdecode_m ((hencode_m h).1)).1).mode), .int .i64 (((hdecode_m ((hencode_m h).1)).1).uid), .int .i64 (((hdecode_m ((hencode_m h).1)).1).gid), .int .i64 (((hdecode_m ((hencode_m h).1)).1).size), .int .i64 (((hdecode_m ((hencode_m h).1)).1).time), .int .u8 (((((hdecode_m ((hencode_m h).1)).1).flag).toNat : Nat) : Int), .string (tx (((hdecode_m ((hencode_m h).1)).1).link)), .string (tx (((hdecode_m ((hencode_m h).1)).1).pfx))] 23]) => ?_))
  refine lvw 8 (.int .i64 ((hdecode_m ((hencode_m h).1)).2)) rfl rfl (run_as rfl rfl) ?_
  simp only [nz1, nz2, nz3]
  refine wpList_nil ?_
  refine then_n (hK13 _ _ ?_)
  refine wp_seq_k (fun K21 hK21 => ?_)
  refine wp_region_lit ?_
  refine lst rfl (m_call hm20 24 (.bool (hawake_m)) rfl (run_hawake rfl) (hawake_any   _  (Laid.below hT hm20.below) ) (fun w22 (hm23 : Mm none (fun _ => True) w w22 [.blk g4 #[.string (tx h.name), .int .i64 (h.mode), .int .i64 (h.uid), .int .i64 (h.gid), .int .i64 (h.size), .int .i64 (h.time), .int .u8 ((h.flag.toNat : Nat) : Int), .string (tx h.link), .string (tx h.pfx)] 23, .blk g18 #[.string (tx (((hdecode_m ((hencode_m h).1)).1).name)), .int .i64 (((hdecode_m ((hencode_m h).1)).1).mode), .int .i64 (((hdecode_m ((hencode_m h).1)).1).uid), .int .i64 (((hdecode_m ((hencode_m h).1)).1).gid), .int .i64 (((hdecode_m ((hencode_m h).1)).1).size), .int .i64 (((hdecode_m ((hencode_m h).1)).1).time), .int .u8 (((((hdecode_m ((hencode_m h).1)).1).flag).toNat : Nat) : Int), .string (tx (((hdecode_m ((hencode_m h).1)).1).link)), .string (tx (((hdecode_m ((hencode_m h).1)).1).pfx))] 23]) => ?_))
  simp only [nz1, nz2, nz3]
  by_cases hs24 : hawake_m = true
  rotate_left
  · rw [(Bool.eq_false_iff.2 hs24 : hawake_m = false)]
    refine lvw 25 (.bool false) rfl rfl (run_mv rfl rfl) ?_
    simp only [nz1, nz2, nz3]
    refine lst_skip 26 rfl rfl ?_
    simp only [nz1, nz2, nz3]
    refine lst_skip 27 rfl rfl ?_
    simp only [nz1, nz2, nz3]
    refine lst_skip 28 rfl rfl ?_
    simp only [nz1, nz2, nz3]
    refine lvw 29 (.bool false) rfl rfl (run_pickf rfl rfl rfl) ?_
    simp only [nz1, nz2, nz3]
    refine lvw 30 (.bool false) rfl rfl (run_mv rfl rfl) ?_
    simp only [nz1, nz2, nz3]
    refine lst_skip 31 rfl rfl ?_
    simp only [nz1, nz2, nz3]
    refine lst_skip 32 rfl rfl ?_
    simp only [nz1, nz2, nz3]
    refine lst_skip 33 rfl rfl ?_
    simp only [nz1, nz2, nz3]
    refine lvw 34 (.bool false) rfl rfl (run_pickf rfl rfl rfl) ?_
    simp only [nz1, nz2, nz3]
    refine lvw 35 (.bool false) rfl rfl (run_mv rfl rfl) ?_
    simp only [nz1, nz2, nz3]
    refine lst_skip 36 rfl rfl ?_
    simp only [nz1, nz2, nz3]
    refine lst_skip 37 rfl rfl ?_
    simp only [nz1, nz2, nz3]
    refine lst_skip 38 rfl rfl ?_
    simp only [nz1, nz2, nz3]
    refine lst_skip 39 rfl rfl ?_
    simp only [nz1, nz2, nz3]
    refine lst_skip 40 rfl rfl ?_
    simp only [nz1, nz2, nz3]
    refine lst_skip 41 rfl rfl ?_
    simp only [nz1, nz2, nz3]
    refine lst_skip 42 rfl rfl ?_
    simp only [nz1, nz2, nz3]
    refine lst_skip 43 rfl rfl ?_
    simp only [nz1, nz2, nz3]
    refine lst_skip 44 rfl rfl ?_
    simp only [nz1, nz2, nz3]
    refine lst_skip 45 rfl rfl ?_
    simp only [nz1, nz2, nz3]
    refine lst_skip 46 rfl rfl ?_
    simp only [nz1, nz2, nz3]
    refine lst_skip 47 rfl rfl ?_
    simp only [nz1, nz2, nz3]
    refine lst_skip 48 rfl rfl ?_
    simp only [nz1, nz2, nz3]
    refine lst_skip 49 rfl rfl ?_
    simp only [nz1, nz2, nz3]
    refine lst_skip 50 rfl rfl ?_
    simp only [nz1, nz2, nz3]
    refine lst_skip 51 rfl rfl ?_
    simp only [nz1, nz2, nz3]
    refine lvw 52 (.bool false) rfl rfl (run_pickf rfl rfl rfl) ?_
    simp only [nz1, nz2, nz3]
    refine lvw 2 (.bool false) rfl rfl (run_as rfl rfl) ?_
    simp only [nz1, nz2, nz3]
    refine wpList_nil ?_
    refine then_n (hK21 _ _ ?_)
    refine wp_ret ?_
    have he36 : lencodes_m h = false := (show lencodes_m h = false from by unfold lencodes_m; rw [if_neg hs24] <;> rfl)
    exact ⟨rfl, .bool false, res_t rfl rfl, ⟨by (rw [he36]; try rfl), hm23.below⟩⟩
  rw [(hs24 : hawake_m = true)]
  refine lvw 25 (.bool true) rfl rfl (run_mv rfl rfl) ?_
  simp only [nz1, nz2, nz3]
  refine lvw 26 (.string (tx ((hencode_m h).1))) rfl rfl (run_mv rfl rfl) ?_
  simp only [nz1, nz2, nz3]
  refine lvw 27 (.string (tx ((rencode_m h).1))) rfl rfl (run_mv rfl rfl) ?_
  simp only [nz1, nz2, nz3]
  refine lvb 28 ((hencode_m h).1 = (rencode_m h).1) rfl rfl (t_eql ((hencode_m h).1) ((rencode_m h).1) rfl rfl rfl) (fun hs25 => ?_) (fun hs25 => ?_)
  rotate_left
  · simp only [nz1, nz2, nz3]
    refine lvw 29 (.bool false) rfl rfl (run_pick rfl rfl rfl) ?_
    simp only [nz1, nz2, nz3]
    refine lvw 30 (.bool false) rfl rfl (run_mv rfl rfl) ?_
    simp only [nz1, nz2, nz3]
    refine lst_skip 31 rfl rfl ?_
    simp only [nz1, nz2, nz3]
    refine lst_skip 32 rfl rfl ?_
    simp only [nz1, nz2, nz3]
    refine lst_skip 33 rfl rfl ?_
    simp only [nz1, nz2, nz3]
    refine lvw 34 (.bool false) rfl rfl (run_pickf rfl rfl rfl) ?_
    simp only [nz1, nz2, nz3]
    refine lvw 35 (.bool false) rfl rfl (run_mv rfl rfl) ?_
    simp only [nz1, nz2, nz3]
    refine lst_skip 36 rfl rfl ?_
    simp only [nz1, nz2, nz3]
    refine lst_skip 37 rfl rfl ?_
    simp only [nz1, nz2, nz3]
    refine lst_skip 38 rfl rfl ?_
    simp only [nz1, nz2, nz3]
    refine lst_skip 39 rfl rfl ?_
    simp only [nz1, nz2, nz3]
    refine lst_skip 40 rfl rfl ?_
    simp only [nz1, nz2, nz3]
    refine lst_skip 41 rfl rfl ?_
    simp only [nz1, nz2, nz3]
    refine lst_skip 42 rfl rfl ?_
    simp only [nz1, nz2, nz3]
    refine lst_skip 43 rfl rfl ?_
    simp only [nz1, nz2, nz3]
    refine lst_skip 44 rfl rfl ?_
    simp only [nz1, nz2, nz3]
    refine lst_skip 45 rfl rfl ?_
    simp only [nz1, nz2, nz3]
    refine lst_skip 46 rfl rfl ?_
    simp only [nz1, nz2, nz3]
    refine lst_skip 47 rfl rfl ?_
    simp only [nz1, nz2, nz3]
    refine lst_skip 48 rfl rfl ?_
    simp only [nz1, nz2, nz3]
    refine lst_skip 49 rfl rfl ?_
    simp only [nz1, nz2, nz3]
    refine lst_skip 50 rfl rfl ?_
    simp only [nz1, nz2, nz3]
    refine lst_skip 51 rfl rfl ?_
    simp only [nz1, nz2, nz3]
    refine lvw 52 (.bool false) rfl rfl (run_pickf rfl rfl rfl) ?_
    simp only [nz1, nz2, nz3]
    refine lvw 2 (.bool false) rfl rfl (run_as rfl rfl) ?_
    simp only [nz1, nz2, nz3]
    refine wpList_nil ?_
    refine then_n (hK21 _ _ ?_)
    refine wp_ret ?_
    have he35 : lencodes_m h = false := (show lencodes_m h = false from by unfold lencodes_m; rw [if_pos hs24, if_neg hs25] <;> rfl)
    exact ⟨rfl, .bool false, res_t rfl rfl, ⟨by (rw [he35]; try rfl), hm23.below⟩⟩
  simp only [nz1, nz2, nz3]
  refine lvw 29 (.bool true) rfl rfl (run_pick rfl rfl rfl) ?_
  simp only [nz1, nz2, nz3]
  refine lvw 30 (.bool true) rfl rfl (run_mv rfl rfl) ?_
  simp only [nz1, nz2, nz3]
  refine lvw 31 (.int .i64 ((hencode_m h).2)) rfl rfl (run_mv rfl rfl) ?_
  simp only [nz1, nz2, nz3]
  refine lvw 32 (.int .i64 ((rencode_m h).2)) rfl rfl (run_mv rfl rfl) ?_
  simp only [nz1, nz2, nz3]
  refine lvb 33 ((hencode_m h).2 = (rencode_m h).2) rfl rfl (z_eql ((hencode_m h).2) ((rencode_m h).2) rfl rfl rfl) (fun hs26 => ?_) (fun hs26 => ?_)
  rotate_left
  · simp only [nz1, nz2, nz3]
    refine lvw 34 (.bool false) rfl rfl (run_pick rfl rfl rfl) ?_
    simp only [nz1, nz2, nz3]
    refine lvw 35 (.bool false) rfl rfl (run_mv rfl rfl) ?_
    simp only [nz1, nz2, nz3]
    refine lst_skip 36 rfl rfl ?_
    simp only [nz1, nz2, nz3]
    refine lst_skip 37 rfl rfl ?_
    simp only [nz1, nz2, nz3]
    refine lst_skip 38 rfl rfl ?_
    simp only [nz1, nz2, nz3]
    refine lst_skip 39 rfl rfl ?_
    simp only [nz1, nz2, nz3]
    refine lst_skip 40 rfl rfl ?_
    simp only [nz1, nz2, nz3]
    refine lst_skip 41 rfl rfl ?_
    simp only [nz1, nz2, nz3]
    refine lst_skip 42 rfl rfl ?_
    simp only [nz1, nz2, nz3]
    refine lst_skip 43 rfl rfl ?_
    simp only [nz1, nz2, nz3]
    refine lst_skip 44 rfl rfl ?_
    simp only [nz1, nz2, nz3]
    refine lst_skip 45 rfl rfl ?_
    simp only [nz1, nz2, nz3]
    refine lst_skip 46 rfl rfl ?_
    simp only [nz1, nz2, nz3]
    refine lst_skip 47 rfl rfl ?_
    simp only [nz1, nz2, nz3]
    refine lst_skip 48 rfl rfl ?_
    simp only [nz1, nz2, nz3]
    refine lst_skip 49 rfl rfl ?_
    simp only [nz1, nz2, nz3]
    refine lst_skip 50 rfl rfl ?_
    simp only [nz1, nz2, nz3]
    refine lst_skip 51 rfl rfl ?_
    simp only [nz1, nz2, nz3]
    refine lvw 52 (.bool false) rfl rfl (run_pickf rfl rfl rfl) ?_
    simp only [nz1, nz2, nz3]
    refine lvw 2 (.bool false) rfl rfl (run_as rfl rfl) ?_
    simp only [nz1, nz2, nz3]
    refine wpList_nil ?_
    refine then_n (hK21 _ _ ?_)
    refine wp_ret ?_
    have he34 : lencodes_m h = false := (show lencodes_m h = false from by unfold lencodes_m; rw [if_pos hs24, if_pos hs25, if_neg hs26] <;> rfl)
    exact ⟨rfl, .bool false, res_t rfl rfl, ⟨by (rw [he34]; try rfl), hm23.below⟩⟩
  simp only [nz1, nz2, nz3]
  refine lvw 34 (.bool true) rfl rfl (run_pick rfl rfl rfl) ?_
  simp only [nz1, nz2, nz3]
  refine lvw 35 (.bool true) rfl rfl (run_mv rfl rfl) ?_
  simp only [nz1, nz2, nz3]
  refine lvw 36 (.int .i64 ((hencode_m h).2)) rfl rfl (run_mv rfl rfl) ?_
  simp only [nz1, nz2, nz3]
  refine lvb 37 (¬ (hencode_m h).2 = 0) rfl rfl (z_neq ((hencode_m h).2) 0 rfl rfl rfl) (fun hs27 => ?_) (fun hs27 => ?_)
  · simp only [nz1, nz2, nz3]
    refine lvw 38 (.bool true) rfl rfl (run_mv rfl rfl) ?_
    simp only [nz1, nz2, nz3]
    refine lst_skip 39 rfl rfl ?_
    simp only [nz1, nz2, nz3]
    refine lst_skip 40 rfl rfl ?_
    simp only [nz1, nz2, nz3]
    refine lst_skip 41 rfl rfl ?_
    simp only [nz1, nz2, nz3]
    refine lst_skip 42 rfl rfl ?_
    simp only [nz1, nz2, nz3]
    refine lst_skip 43 rfl rfl ?_
    simp only [nz1, nz2, nz3]
    refine lst_skip 44 rfl rfl ?_
    simp only [nz1, nz2, nz3]
    refine lst_skip 45 rfl rfl ?_
    simp only [nz1, nz2, nz3]
    refine lst_skip 46 rfl rfl ?_
    simp only [nz1, nz2, nz3]
    refine lst_skip 47 rfl rfl ?_
    simp only [nz1, nz2, nz3]
    refine lst_skip 48 rfl rfl ?_
    simp only [nz1, nz2, nz3]
    refine lst_skip 49 rfl rfl ?_
    simp only [nz1, nz2, nz3]
    refine lst_skip 50 rfl rfl ?_
    simp only [nz1, nz2, nz3]
    refine lvw 51 (.bool true) rfl rfl (run_pick rfl rfl rfl) ?_
    simp only [nz1, nz2, nz3]
    refine lvw 52 (.bool true) rfl rfl (run_pick rfl rfl rfl) ?_
    simp only [nz1, nz2, nz3]
    refine lvw 2 (.bool true) rfl rfl (run_as rfl rfl) ?_
    simp only [nz1, nz2, nz3]
    refine wpList_nil ?_
    refine then_n (hK21 _ _ ?_)
    refine wp_ret ?_
    have he28 : lencodes_m h = true := (show lencodes_m h = true from by unfold lencodes_m; rw [if_pos hs24, if_pos hs25, if_pos hs26, if_pos hs27] <;> rfl)
    exact ⟨rfl, .bool true, res_t rfl rfl, ⟨by (rw [he28]; try rfl), hm23.below⟩⟩
  simp only [nz1, nz2, nz3]
  refine lvw 38 (.bool false) rfl rfl (run_mv rfl rfl) ?_
  simp only [nz1, nz2, nz3]
  refine lvw 39 (.int .i64 ((hdecode_m ((hencode_m h).1)).2)) rfl rfl (run_mv rfl rfl) ?_
  simp only [nz1, nz2, nz3]
  refine lvb 40 ((hdecode_m ((hencode_m h).1)).2 = 0) rfl rfl (z_eql ((hdecode_m ((hencode_m h).1)).2) 0 rfl rfl rfl) (fun hs29 => ?_) (fun hs29 => ?_)
  rotate_left
  · simp only [nz1, nz2, nz3]
    refine lvw 41 (.bool false) rfl rfl (run_mv rfl rfl) ?_
    simp only [nz1, nz2, nz3]
    refine lst_skip 42 rfl rfl ?_
    simp only [nz1, nz2, nz3]
    refine lst_skip 43 rfl rfl ?_
    simp only [nz1, nz2, nz3]
    refine lst_skip 44 rfl rfl ?_
    simp only [nz1, nz2, nz3]
    refine lvw 45 (.bool false) rfl rfl (run_pickf rfl rfl rfl) ?_
    simp only [nz1, nz2, nz3]
    refine lvw 46 (.bool false) rfl rfl (run_mv rfl rfl) ?_
    simp only [nz1, nz2, nz3]
    refine lst_skip 47 rfl rfl ?_
    simp only [nz1, nz2, nz3]
    refine lst_skip 48 rfl rfl ?_
    simp only [nz1, nz2, nz3]
    refine lst_skip 49 rfl rfl ?_
    simp only [nz1, nz2, nz3]
    refine lvw 50 (.bool false) rfl rfl (run_pickf rfl rfl rfl) ?_
    simp only [nz1, nz2, nz3]
    refine lvw 51 (.bool false) rfl rfl (run_pickf rfl rfl rfl) ?_
    simp only [nz1, nz2, nz3]
    refine lvw 52 (.bool false) rfl rfl (run_pick rfl rfl rfl) ?_
    simp only [nz1, nz2, nz3]
    refine lvw 2 (.bool false) rfl rfl (run_as rfl rfl) ?_
    simp only [nz1, nz2, nz3]
    refine wpList_nil ?_
    refine then_n (hK21 _ _ ?_)
    refine wp_ret ?_
    have he33 : lencodes_m h = false := (show lencodes_m h = false from by unfold lencodes_m; rw [if_pos hs24, if_pos hs25, if_pos hs26, if_neg hs27, if_neg hs29] <;> rfl)
    exact ⟨rfl, .bool false, res_t rfl rfl, ⟨by (rw [he33]; try rfl), hm23.below⟩⟩
  simp only [nz1, nz2, nz3]
  refine lvw 41 (.bool true) rfl rfl (run_mv rfl rfl) ?_
  simp only [nz1, nz2, nz3]
  refine lvw 42 (.agg #[.string (tx (((hdecode_m ((hencode_m h).1)).1).name)), .int .i64 (((hdecode_m ((hencode_m h).1)).1).mode), .int .i64 (((hdecode_m ((hencode_m h).1)).1).uid), .int .i64 (((hdecode_m ((hencode_m h).1)).1).gid), .int .i64 (((hdecode_m ((hencode_m h).1)).1).size), .int .i64 (((hdecode_m ((hencode_m h).1)).1).time), .int .u8 (((((hdecode_m ((hencode_m h).1)).1).flag).toNat : Nat) : Int), .string (tx (((hdecode_m ((hencode_m h).1)).1).link)), .string (tx (((hdecode_m ((hencode_m h).1)).1).pfx))]) rfl rfl (r_whole (hm23.at 1 rfl) Tryd.underlying23 rfl (by exact sz_23) rfl rfl) ?_
  simp only [nz1, nz2, nz3]
  refine lvw 43 (.agg #[.string (tx h.name), .int .i64 (h.mode), .int .i64 (h.uid), .int .i64 (h.gid), .int .i64 (h.size), .int .i64 (h.time), .int .u8 ((h.flag.toNat : Nat) : Int), .string (tx h.link), .string (tx h.pfx)]) rfl rfl (r_whole (hm23.at 0 rfl) Tryd.underlying23 rfl (by exact sz_23) rfl rfl) ?_
  simp only [nz1, nz2, nz3]
  refine lvb 44 (((hdecode_m ((hencode_m h).1)).1) = h) rfl rfl (c23_eql ((hdecode_m ((hencode_m h).1)).1) h rfl rfl rfl) (fun hs30 => ?_) (fun hs30 => ?_)
  · simp only [nz1, nz2, nz3]
    refine lvw 45 (.bool true) rfl rfl (run_pick rfl rfl rfl) ?_
    simp only [nz1, nz2, nz3]
    refine lvw 46 (.bool true) rfl rfl (run_mv rfl rfl) ?_
    simp only [nz1, nz2, nz3]
    refine lvw 47 (.string (tx ((hencode_m h).1))) rfl rfl (run_mv rfl rfl) ?_
    simp only [nz1, nz2, nz3]
    refine lvw 48 (.int .i64 ((((hencode_m h).1).length : Nat) : Int)) rfl rfl (t_len rfl Tryd.underlying9 rfl) ?_
    simp only [nz1, nz2, nz3]
    refine lvw 49 (.bool (decide (((hencode_m h).1).length = 512))) rfl rfl (r_eql (((hencode_m h).1).length) 512 rfl rfl rfl) ?_
    simp only [nz1, nz2, nz3]
    refine lvw 50 (.bool (decide (((hencode_m h).1).length = 512))) rfl rfl (run_pick rfl rfl rfl) ?_
    simp only [nz1, nz2, nz3]
    refine lvw 51 (.bool (decide (((hencode_m h).1).length = 512))) rfl rfl (run_pickf rfl rfl rfl) ?_
    simp only [nz1, nz2, nz3]
    refine lvw 52 (.bool (decide (((hencode_m h).1).length = 512))) rfl rfl (run_pick rfl rfl rfl) ?_
    simp only [nz1, nz2, nz3]
    refine lvw 2 (.bool (decide (((hencode_m h).1).length = 512))) rfl rfl (run_as rfl rfl) ?_
    simp only [nz1, nz2, nz3]
    refine wpList_nil ?_
    refine then_n (hK21 _ _ ?_)
    refine wp_ret ?_
    have he31 : lencodes_m h = (decide (((hencode_m h).1).length = 512)) := (show lencodes_m h = (decide (((hencode_m h).1).length = 512)) from by unfold lencodes_m; rw [if_pos hs24, if_pos hs25, if_pos hs26, if_neg hs27, if_pos hs29, if_pos hs30] <;> rfl)
    exact ⟨rfl, .bool (decide (((hencode_m h).1).length = 512)), res_t rfl rfl, ⟨by (rw [he31]; try rfl), hm23.below⟩⟩
  simp only [nz1, nz2, nz3]
  refine lvw 45 (.bool false) rfl rfl (run_pick rfl rfl rfl) ?_
  simp only [nz1, nz2, nz3]
  refine lvw 46 (.bool false) rfl rfl (run_mv rfl rfl) ?_
  simp only [nz1, nz2, nz3]
  refine lst_skip 47 rfl rfl ?_
  simp only [nz1, nz2, nz3]
  refine lst_skip 48 rfl rfl ?_
  simp only [nz1, nz2, nz3]
  refine lst_skip 49 rfl rfl ?_
  simp only [nz1, nz2, nz3]
  refine lvw 50 (.bool false) rfl rfl (run_pickf rfl rfl rfl) ?_
  simp only [nz1, nz2, nz3]
  refine lvw 51 (.bool false) rfl rfl (run_pickf rfl rfl rfl) ?_
  simp only [nz1, nz2, nz3]
  refine lvw 52 (.bool false) rfl rfl (run_pick rfl rfl rfl) ?_
  simp only [nz1, nz2, nz3]
  refine lvw 2 (.bool false) rfl rfl (run_as rfl rfl) ?_
  simp only [nz1, nz2, nz3]
  refine wpList_nil ?_
  refine then_n (hK21 _ _ ?_)
  refine wp_ret ?_
  have he32 : lencodes_m h = false := (show lencodes_m h = false from by unfold lencodes_m; rw [if_pos hs24, if_pos hs25, if_pos hs26, if_neg hs27, if_pos hs29, if_neg hs30] <;> rfl)
  exact ⟨rfl, .bool false, res_t rfl rfl, ⟨by (rw [he32]; try rfl), hm23.below⟩⟩
theorem run_lencodes {o : Oper} {a : Act} {w : World} {x0 : Operand} {v0 : Value} (ho : o.op = .call { callee := .value (.func 3), args := #[x0], argTypes := #[23] }) (h0 : a.eval x0 = v0) :
    (execOp a.eval o).run Tryd.prog w = .ok (.enter 3 #[v0]) w := by
  unfold execOp
  simp only [ho]
  have hf : a.eval (.func 3) = .func (.func 3) #[] #[] := rfl
  generalize a.eval = f at *
  go_simp
end Go.Proofs.YtglnifckngcpkaaDoor.Hd
