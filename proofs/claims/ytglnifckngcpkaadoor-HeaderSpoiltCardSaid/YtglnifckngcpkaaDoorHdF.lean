/- Layer 9: the example. -/
import Derived.Test.YtglnifckngcpkaaDoorHdD
import Derived.Test.YtglnifckngcpkaaDoorHdE
import Derived.Test.YtglnifckngcpkaaDoorHdQ
namespace Go.Proofs.YtglnifckngcpkaaDoor.Hd
open Go.RowKit
open Go.Proofs.YtglnifckngcpkaaDoor.Sym Go.Proofs.YtglnifckngcpkaaDoor.Mem
open Go.Proofs.YtglnifckngcpkaaDoor.Sx hiding Mm m_alloc m_store m_put m_call m_callx m_make m_append r_string r_ixS
set_option linter.unusedVariables false
attribute [local irreducible] octal_m put_m get_m hsum_m fits_m fill_m rep_m ib_m hcut_m cut_m hencode_m hdecode_m blank_m
attribute [local irreducible] wpList Oper.wp

def hawake_m : Bool :=
  if (hencode_m (Hdr.mk ([97]) 420 0 0 3 0 (UInt8.ofNat 48) ([]) ([]))).2 = 0 then
    if (hdecode_m ((hencode_m (Hdr.mk ([97]) 420 0 0 3 0 (UInt8.ofNat 48) ([]) ([]))).1)).2 = 0 then
      if ((hencode_m (Hdr.mk ([97]) 420 0 0 3 0 (UInt8.ofNat 48) ([]) ([]))).1).length = 512 then
        if ((((hencode_m (Hdr.mk ([97]) 420 0 0 3 0 (UInt8.ofNat 48) ([]) ([]))).1).take 156).drop 148) = [48, 48, 54, 49, 48, 49, 0, 32] then
          if ((hdecode_m ((hencode_m (Hdr.mk ([97]) 420 0 0 3 0 (UInt8.ofNat 48) ([]) ([]))).1)).1).name = [97] then
            if ((hdecode_m ((hencode_m (Hdr.mk ([97]) 420 0 0 3 0 (UInt8.ofNat 48) ([]) ([]))).1)).1).size = 3 then
              (decide (((hdecode_m ((hencode_m (Hdr.mk ([97]) 420 0 0 3 0 (UInt8.ofNat 48) ([]) ([]))).1)).1).mode = 420))
            else
              false
          else
            false
        else
          false
      else
        false
    else
      false
  else
    false

set_option maxHeartbeats 4000000 in
set_option maxRecDepth 100000 in
theorem hawake_any (w : World)  (hT : Laid w)  : Calls Tryd.prog 17 #[] w (fun e w' => e = .returned (.bool (hawake_m)) ∧ Below w.heap.size w w') := by
  go_enter Tryd.func17, Tryd.ntmps17
  have hm00 := Mm.nil none (fun _ => True) w
  have hm0 := hm00
  refine wp_seq_k (fun K1 hK1 => ?_)
  refine wp_region_lit ?_
  refine lvw 0 (.bool false) rfl rfl (run_as rfl rfl) ?_
  simp only [nz1, nz2]
  refine wpList_nil ?_
  refine then_n (hK1 _ _ ?_)
  refine wp_seq_k (fun K2 hK2 => ?_)
  refine wp_region_lit ?_
  refine lvw 6 (.agg #[.string (tx ([97])), .int .i64 420, .int .i64 0, .int .i64 0, .int .i64 3, .int .i64 0, .int .u8 48, .string (tx ([])), .string (tx ([]))]) rfl rfl (by unfold execOp; go_simp; try (first | rfl | (repeat' (first | rfl | apply And.intro)))) ?_
  simp only [nz1, nz2, nz3]
  refine lst rfl (m_call hm0 7 (.tuple #[.string (tx ((hencode_m (Hdr.mk ([97]) 420 0 0 3 0 (UInt8.ofNat 48) ([]) ([]))).1)), .int .i64 ((hencode_m (Hdr.mk ([97]) 420 0 0 3 0 (UInt8.ofNat 48) ([]) ([]))).2)]) rfl (run_hencode rfl rfl) (hencode_any (Hdr.mk ([97]) 420 0 0 3 0 (UInt8.ofNat 48) ([]) ([]))  _  (Laid.below hT hm0.below) (by first | omega | assumption | (simp; done) | (simp; omega) | (simp only [List.length_append, List.length_cons, List.length_nil]; omega) | (simp only [List.length_append, List.length_cons, List.length_nil] at *; omega) | decide) (by first | omega | assumption | (simp; done) | (simp; omega) | (simp only [List.length_append, List.length_cons, List.length_nil]; omega) | (simp only [List.length_append, List.length_cons, List.length_nil] at *; omega) | decide) (by first | omega | assumption | (simp; done) | (simp; omega) | (simp only [List.length_append, List.length_cons, List.length_nil]; omega) | (simp only [List.length_append, List.length_cons, List.length_nil] at *; omega) | decide) (by first | omega | assumption | (simp; done) | (simp; omega) | (simp only [List.length_append, List.length_cons, List.length_nil]; omega) | (simp only [List.length_append, List.length_cons, List.length_nil] at *; omega) | decide) (by first | omega | assumption | (simp; done) | (simp; omega) | (simp only [List.length_append, List.length_cons, List.length_nil]; omega) | (simp only [List.length_append, List.length_cons, List.length_nil] at *; omega) | decide) (by first | omega | assumption | (simp; done) | (simp; omega) | (simp only [List.length_append, List.length_cons, List.length_nil]; omega) | (simp only [List.length_append, List.length_cons, List.length_nil] at *; omega) | decide) (by first | omega | assumption | (simp; done) | (simp; omega) | (simp only [List.length_append, List.length_cons, List.length_nil]; omega) | (simp only [List.length_append, List.length_cons, List.length_nil] at *; omega) | decide) (by first | omega | assumption | (simp; done) | (simp; omega) | (simp only [List.length_append, List.length_cons, List.length_nil]; omega) | (simp only [List.length_append, List.length_cons, List.length_nil] at *; omega) | decide) (by first | omega | assumption | (simp; done) | (simp; omega) | (simp only [List.length_append, List.length_cons, List.length_nil]; omega) | (simp only [List.length_append, List.length_cons, List.length_nil] at *; omega) | decide) (by first | omega | assumption | (simp; done) | (simp; omega) | (simp only [List.length_append, List.length_cons, List.length_nil]; omega) | (simp only [List.length_append, List.length_cons, List.length_nil] at *; omega) | decide)) (fun w3 (hm4 : Mm none (fun _ => True) w w3 []) => ?_))
  have hf5 : (hencode_m (Hdr.mk ([97]) 420 0 0 3 0 (UInt8.ofNat 48) ([]) ([]))).1.length ≤ 512 := hencode_len (Hdr.mk ([97]) 420 0 0 3 0 (UInt8.ofNat 48) ([]) ([]))
  have hf6 : ¬ (hencode_m (Hdr.mk ([97]) 420 0 0 3 0 (UInt8.ofNat 48) ([]) ([]))).2 = 0 ∨ ((Hdr.mk ([97]) 420 0 0 3 0 (UInt8.ofNat 48) ([]) ([])).name.length ≤ 100 ∧ (Hdr.mk ([97]) 420 0 0 3 0 (UInt8.ofNat 48) ([]) ([])).link.length ≤ 100 ∧ (Hdr.mk ([97]) 420 0 0 3 0 (UInt8.ofNat 48) ([]) ([])).pfx.length ≤ 155) := hencode_fit (Hdr.mk ([97]) 420 0 0 3 0 (UInt8.ofNat 48) ([]) ([]))
  simp only [nz1, nz2, nz3]
  refine lvw 5 (.tuple #[.string (tx ((hencode_m (Hdr.mk ([97]) 420 0 0 3 0 (UInt8.ofNat 48) ([]) ([]))).1)), .int .i64 ((hencode_m (Hdr.mk ([97]) 420 0 0 3 0 (UInt8.ofNat 48) ([]) ([]))).2)]) rfl rfl (run_mv rfl rfl) ?_
  simp only [nz1, nz2, nz3]
  refine lvw 8 (.string (tx ((hencode_m (Hdr.mk ([97]) 420 0 0 3 0 (UInt8.ofNat 48) ([]) ([]))).1))) rfl rfl (run_ex rfl rfl rfl) ?_
  simp only [nz1, nz2, nz3]
  refine lvw 9 (.int .i64 ((hencode_m (Hdr.mk ([97]) 420 0 0 3 0 (UInt8.ofNat 48) ([]) ([]))).2)) rfl rfl (run_ex rfl rfl rfl) ?_
  simp only [nz1, nz2, nz3]
  refine lvw 1 (.string (tx ((hencode_m (Hdr.mk ([97]) 420 0 0 3 0 (UInt8.ofNat 48) ([]) ([]))).1))) rfl rfl (run_as rfl rfl) ?_
  simp only [nz1, nz2, nz3]
  refine lvw 2 (.int .i64 ((hencode_m (Hdr.mk ([97]) 420 0 0 3 0 (UInt8.ofNat 48) ([]) ([]))).2)) rfl rfl (run_as rfl rfl) ?_
  simp only [nz1, nz2, nz3]
  refine wpList_nil ?_
  refine then_n (hK2 _ _ ?_)
  refine wp_seq_k (fun K7 hK7 => ?_)
  refine wp_region_lit ?_
  refine lvw 11 (.string (tx ((hencode_m (Hdr.mk ([97]) 420 0 0 3 0 (UInt8.ofNat 48) ([]) ([]))).1))) rfl rfl (run_mv rfl rfl) ?_
  simp only [nz1, nz2, nz3]
  refine lst rfl (m_call hm4 12 (.tuple #[.agg #[.string (tx (((hdecode_m ((hencode_m (Hdr.mk ([97]) 420 0 0 3 0 (UInt8.ofNat 48) ([]) ([]))).1)).1).name)), .int .i64 (((hdecode_m ((hencode_m (Hdr.mk ([97]) 420 0 0 3 0 (UInt8.ofNat 48) ([]) ([]))).1)).1).mode), .int .i64 (((hdecode_m ((hencode_m (Hdr.mk ([97]) 420 0 0 3 0 (UInt8.ofNat 48) ([]) ([]))).1)).1).uid), .int .i64 (((hdecode_m ((hencode_m (Hdr.mk ([97]) 420 0 0 3 0 (UInt8.ofNat 48) ([]) ([]))).1)).1).gid), .int .i64 (((hdecode_m ((hencode_m (Hdr.mk ([97]) 420 0 0 3 0 (UInt8.ofNat 48) ([]) ([]))).1)).1).size), .int .i64 (((hdecode_m ((hencode_m (Hdr.mk ([97]) 420 0 0 3 0 (UInt8.ofNat 48) ([]) ([]))).1)).1).time), .int .u8 (((((hdecode_m ((hencode_m (Hdr.mk ([97]) 420 0 0 3 0 (UInt8.ofNat 48) ([]) ([]))).1)).1).flag).toNat : Nat) : Int), .string (tx (((hdecode_m ((hencode_m (Hdr.mk ([97]) 420 0 0 3 0 (UInt8.ofNat 48) ([]) ([]))).1)).1).link)), .string (tx (((hdecode_m ((hencode_m (Hdr.mk ([97]) 420 0 0 3 0 (UInt8.ofNat 48) ([]) ([]))).1)).1).pfx))], .int .i64 ((hdecode_m ((hencode_m (Hdr.mk ([97]) 420 0 0 3 0 (UInt8.ofNat 48) ([]) ([]))).1)).2)]) rfl (run_hdecode rfl rfl) (hdecode_any ((hencode_m (Hdr.mk ([97]) 420 0 0 3 0 (UInt8.ofNat 48) ([]) ([]))).1)  _  (Laid.below hT hm4.below) ) (fun w8 (hm9 : Mm none (fun _ => True) w w8 []) => ?_))
  simp only [nz1, nz2, nz3]
  refine lvw 10 (.tuple #[.agg #[.string (tx (((hdecode_m ((hencode_m (Hdr.mk ([97]) 420 0 0 3 0 (UInt8.ofNat 48) ([]) ([]))).1)).1).name)), .int .i64 (((hdecode_m ((hencode_m (Hdr.mk ([97]) 420 0 0 3 0 (UInt8.ofNat 48) ([]) ([]))).1)).1).mode), .int .i64 (((hdecode_m ((hencode_m (Hdr.mk ([97]) 420 0 0 3 0 (UInt8.ofNat 48) ([]) ([]))).1)).1).uid), .int .i64 (((hdecode_m ((hencode_m (Hdr.mk ([97]) 420 0 0 3 0 (UInt8.ofNat 48) ([]) ([]))).1)).1).gid), .int .i64 (((hdecode_m ((hencode_m (Hdr.mk ([97]) 420 0 0 3 0 (UInt8.ofNat 48) ([]) ([]))).1)).1).size), .int .i64 (((hdecode_m ((hencode_m (Hdr.mk ([97]) 420 0 0 3 0 (UInt8.ofNat 48) ([]) ([]))).1)).1).time), .int .u8 (((((hdecode_m ((hencode_m (Hdr.mk ([97]) 420 0 0 3 0 (UInt8.ofNat 48) ([]) ([]))).1)).1).flag).toNat : Nat) : Int), .string (tx (((hdecode_m ((hencode_m (Hdr.mk ([97]) 420 0 0 3 0 (UInt8.ofNat 48) ([]) ([]))).1)).1).link)), .string (tx (((hdecode_m ((hencode_m (Hdr.mk ([97]) 420 0 0 3 0 (UInt8.ofNat 48) ([]) ([]))).1)).1).pfx))], .int .i64 ((hdecode_m ((hencode_m (Hdr.mk ([97]) 420 0 0 3 0 (UInt8.ofNat 48) ([]) ([]))).1)).2)]) rfl rfl (run_mv rfl rfl) ?_
  simp only [nz1, nz2, nz3]
  refine lvw 13 (.agg #[.string (tx (((hdecode_m ((hencode_m (Hdr.mk ([97]) 420 0 0 3 0 (UInt8.ofNat 48) ([]) ([]))).1)).1).name)), .int .i64 (((hdecode_m ((hencode_m (Hdr.mk ([97]) 420 0 0 3 0 (UInt8.ofNat 48) ([]) ([]))).1)).1).mode), .int .i64 (((hdecode_m ((hencode_m (Hdr.mk ([97]) 420 0 0 3 0 (UInt8.ofNat 48) ([]) ([]))).1)).1).uid), .int .i64 (((hdecode_m ((hencode_m (Hdr.mk ([97]) 420 0 0 3 0 (UInt8.ofNat 48) ([]) ([]))).1)).1).gid), .int .i64 (((hdecode_m ((hencode_m (Hdr.mk ([97]) 420 0 0 3 0 (UInt8.ofNat 48) ([]) ([]))).1)).1).size), .int .i64 (((hdecode_m ((hencode_m (Hdr.mk ([97]) 420 0 0 3 0 (UInt8.ofNat 48) ([]) ([]))).1)).1).time), .int .u8 (((((hdecode_m ((hencode_m (Hdr.mk ([97]) 420 0 0 3 0 (UInt8.ofNat 48) ([]) ([]))).1)).1).flag).toNat : Nat) : Int), .string (tx (((hdecode_m ((hencode_m (Hdr.mk ([97]) 420 0 0 3 0 (UInt8.ofNat 48) ([]) ([]))).1)).1).link)), .string (tx (((hdecode_m ((hencode_m (Hdr.mk ([97]) 420 0 0 3 0 (UInt8.ofNat 48) ([]) ([]))).1)).1).pfx))]) rfl rfl (run_ex rfl rfl rfl) ?_
  simp only [nz1, nz2, nz3]
  refine lvw 14 (.int .i64 ((hdecode_m ((hencode_m (Hdr.mk ([97]) 420 0 0 3 0 (UInt8.ofNat 48) ([]) ([]))).1)).2)) rfl rfl (run_ex rfl rfl rfl) ?_
  simp only [nz1, nz2, nz3]
  refine lst rfl (m_alloc (c := #[.string (tx ([])), .int .i64 0, .int .i64 0, .int .i64 0, .int .i64 0, .int .i64 0, .int .u8 0, .string (tx ([])), .string (tx ([]))]) (T := 23) hm9 3 rfl (by unfold execOp; go_simp; try rfl) (fun g12 w10 (hm11 : Mm none (fun _ => True) w w10 [.blk g12 #[.string (tx ([])), .int .i64 0, .int .i64 0, .int .i64 0, .int .i64 0, .int .i64 0, .int .u8 0, .string (tx ([])), .string (tx ([]))] 23]) => ?_))
  simp only [nz1, nz2, nz3]
  refine lst rfl (m_store 0 23 _ _ 0 (.agg #[.string (tx (((hdecode_m ((hencode_m (Hdr.mk ([97]) 420 0 0 3 0 (UInt8.ofNat 48) ([]) ([]))).1)).1).name)), .int .i64 (((hdecode_m ((hencode_m (Hdr.mk ([97]) 420 0 0 3 0 (UInt8.ofNat 48) ([]) ([]))).1)).1).mode), .int .i64 (((hdecode_m ((hencode_m (Hdr.mk ([97]) 420 0 0 3 0 (UInt8.ofNat 48) ([]) ([]))).1)).1).uid), .int .i64 (((hdecode_m ((hencode_m (Hdr.mk ([97]) 420 0 0 3 0 (UInt8.ofNat 48) ([]) ([]))).1)).1).gid), .int .i64 (((hdecode_m ((hencode_m (Hdr.mk ([97]) 420 0 0 3 0 (UInt8.ofNat 48) ([]) ([]))).1)).1).size), .int .i64 (((hdecode_m ((hencode_m (Hdr.mk ([97]) 420 0 0 3 0 (UInt8.ofNat 48) ([]) ([]))).1)).1).time), .int .u8 (((((hdecode_m ((hencode_m (Hdr.mk ([97]) 420 0 0 3 0 (UInt8.ofNat 48) ([]) ([]))).1)).1).flag).toNat : Nat) : Int), .string (tx (((hdecode_m ((hencode_m (Hdr.mk ([97]) 420 0 0 3 0 (UInt8.ofNat 48) ([]) ([]))).1)).1).link)), .string (tx (((hdecode_m ((hencode_m (Hdr.mk ([97]) 420 0 0 3 0 (UInt8.ofNat 48) ([]) ([]))).1)).1).pfx))]) (old := #[.string (tx ([])), .int .i64 0, .int .i64 0, .int .i64 0, .int .i64 0, .int .i64 0, .int .u8 0, .string (tx ([])), .string (tx ([]))]) (new := #[.string (tx (((hdecode_m ((hencode_m (Hdr.mk ([97]) 420 0 0 3 0 (UInt8.ofNat 48) ([]) ([]))).1)).1).name)), .int .i64 (((hdecode_m ((hencode_m (Hdr.mk ([97]) 420 0 0 3 0 (UInt8.ofNat 48) ([]) ([]))).1)).1).mode), .int .i64 (((hdecode_m ((hencode_m (Hdr.mk ([97]) 420 0 0 3 0 (UInt8.ofNat 48) ([]) ([]))).1)).1).uid), .int .i64 (((hdecode_m ((hencode_m (Hdr.mk ([97]) 420 0 0 3 0 (UInt8.ofNat 48) ([]) ([]))).1)).1).gid), .int .i64 (((hdecode_m ((hencode_m (Hdr.mk ([97]) 420 0 0 3 0 (UInt8.ofNat 48) ([]) ([]))).1)).1).size), .int .i64 (((hdecode_m ((hencode_m (Hdr.mk ([97]) 420 0 0 3 0 (UInt8.ofNat 48) ([]) ([]))).1)).1).time), .int .u8 (((((hdecode_m ((hencode_m (Hdr.mk ([97]) 420 0 0 3 0 (UInt8.ofNat 48) ([]) ([]))).1)).1).flag).toNat : Nat) : Int), .string (tx (((hdecode_m ((hencode_m (Hdr.mk ([97]) 420 0 0 3 0 (UInt8.ofNat 48) ([]) ([]))).1)).1).link)), .string (tx (((hdecode_m ((hencode_m (Hdr.mk ([97]) 420 0 0 3 0 (UInt8.ofNat 48) ([]) ([]))).1)).1).pfx))]) hm11 rfl rfl rfl rfl rfl (by exact sz_23) (show 0 + 9 ≤ 9 from by decide) (by simp [Value.cells, Value.oneCell']) rfl (fun w13 (hm14 : Mm none (fun _ => True) w w13 [.blk g12 #[.string (tx (((hdecode_m ((hencode_m (Hdr.mk ([97]) 420 0 0 3 0 (UInt8.ofNat 48) ([]) ([]))).1)).1).name)), .int .i64 (((hdecode_m ((hencode_m (Hdr.mk ([97]) 420 0 0 3 0 (UInt8.ofNat 48) ([]) ([]))).1)).1).mode), .int .i64 (((hdecode_m ((hencode_m (Hdr.mk ([97]) 420 0 0 3 0 (UInt8.ofNat 48) ([]) ([]))).1)).1).uid), .int .i64 (((hdecode_m ((hencode_m (Hdr.mk ([97]) 420 0 0 3 0 (UInt8.ofNat 48) ([]) ([]))).1)).1).gid), .int .i64 (((hdecode_m ((hencode_m (Hdr.mk ([97]) 420 0 0 3 0 (UInt8.ofNat 48) ([]) ([]))).1)).1).size), .int .i64 (((hdecode_m ((hencode_m (Hdr.mk ([97]) 420 0 0 3 0 (UInt8.ofNat 48) ([]) ([]))).1)).1).time), .int .u8 (((((hdecode_m ((hencode_m (Hdr.mk ([97]) 420 0 0 3 0 (UInt8.ofNat 48) ([]) ([]))).1)).1).flag).toNat : Nat) : Int), .string (tx (((hdecode_m ((hencode_m (Hdr.mk ([97]) 420 0 0 3 0 (UInt8.ofNat 48) ([]) ([]))).1)).1).link)), .string (tx (((hdecode_m ((hencode_m (Hdr.mk ([97]) 420 0 0 3 0 (UInt8.ofNat 48) ([]) ([]))).1)).1).pfx))] 23]) => ?_))
  refine lvw 4 (.int .i64 ((hdecode_m ((hencode_m (Hdr.mk ([97]) 420 0 0 3 0 (UInt8.ofNat 48) ([]) ([]))).1)).2)) rfl rfl (run_as rfl rfl) ?_
  simp only [nz1, nz2, nz3]
  refine wpList_nil ?_
  refine then_n (hK7 _ _ ?_)
  refine wp_seq_k (fun K15 hK15 => ?_)
  refine wp_region_lit ?_
  refine lvw 15 (.int .i64 ((hencode_m (Hdr.mk ([97]) 420 0 0 3 0 (UInt8.ofNat 48) ([]) ([]))).2)) rfl rfl (run_mv rfl rfl) ?_
  simp only [nz1, nz2, nz3]
  refine lvb 16 ((hencode_m (Hdr.mk ([97]) 420 0 0 3 0 (UInt8.ofNat 48) ([]) ([]))).2 = 0) rfl rfl (z_eql ((hencode_m (Hdr.mk ([97]) 420 0 0 3 0 (UInt8.ofNat 48) ([]) ([]))).2) 0 rfl rfl rfl) (fun hs16 => ?_) (fun hs16 => ?_)
  rotate_left
  · simp only [nz1, nz2, nz3]
    refine lvw 17 (.bool false) rfl rfl (run_mv rfl rfl) ?_
    simp only [nz1, nz2, nz3]
    refine lst_skip 18 rfl rfl ?_
    simp only [nz1, nz2, nz3]
    refine lst_skip 19 rfl rfl ?_
    simp only [nz1, nz2, nz3]
    refine lvw 20 (.bool false) rfl rfl (run_pickf rfl rfl rfl) ?_
    simp only [nz1, nz2, nz3]
    refine lvw 21 (.bool false) rfl rfl (run_mv rfl rfl) ?_
    simp only [nz1, nz2, nz3]
    refine lst_skip 22 rfl rfl ?_
    simp only [nz1, nz2, nz3]
    refine lst_skip 23 rfl rfl ?_
    simp only [nz1, nz2, nz3]
    refine lst_skip 24 rfl rfl ?_
    simp only [nz1, nz2, nz3]
    refine lvw 25 (.bool false) rfl rfl (run_pickf rfl rfl rfl) ?_
    simp only [nz1, nz2, nz3]
    refine lvw 26 (.bool false) rfl rfl (run_mv rfl rfl) ?_
    simp only [nz1, nz2, nz3]
    refine lst_skip 27 rfl rfl ?_
    simp only [nz1, nz2, nz3]
    refine lst_skip 28 rfl rfl ?_
    simp only [nz1, nz2, nz3]
    refine lst_skip 29 rfl rfl ?_
    simp only [nz1, nz2, nz3]
    refine lvw 30 (.bool false) rfl rfl (run_pickf rfl rfl rfl) ?_
    simp only [nz1, nz2, nz3]
    refine lvw 31 (.bool false) rfl rfl (run_mv rfl rfl) ?_
    simp only [nz1, nz2, nz3]
    refine lst_skip 32 rfl rfl ?_
    simp only [nz1, nz2, nz3]
    refine lst_skip 33 rfl rfl ?_
    simp only [nz1, nz2, nz3]
    refine lst_skip 34 rfl rfl ?_
    simp only [nz1, nz2, nz3]
    refine lvw 35 (.bool false) rfl rfl (run_pickf rfl rfl rfl) ?_
    simp only [nz1, nz2, nz3]
    refine lvw 36 (.bool false) rfl rfl (run_mv rfl rfl) ?_
    simp only [nz1, nz2, nz3]
    refine lst_skip 37 rfl rfl ?_
    simp only [nz1, nz2, nz3]
    refine lst_skip 38 rfl rfl ?_
    simp only [nz1, nz2, nz3]
    refine lst_skip 39 rfl rfl ?_
    simp only [nz1, nz2, nz3]
    refine lvw 40 (.bool false) rfl rfl (run_pickf rfl rfl rfl) ?_
    simp only [nz1, nz2, nz3]
    refine lvw 41 (.bool false) rfl rfl (run_mv rfl rfl) ?_
    simp only [nz1, nz2, nz3]
    refine lst_skip 42 rfl rfl ?_
    simp only [nz1, nz2, nz3]
    refine lst_skip 43 rfl rfl ?_
    simp only [nz1, nz2, nz3]
    refine lst_skip 44 rfl rfl ?_
    simp only [nz1, nz2, nz3]
    refine lvw 45 (.bool false) rfl rfl (run_pickf rfl rfl rfl) ?_
    simp only [nz1, nz2, nz3]
    refine lvw 0 (.bool false) rfl rfl (run_as rfl rfl) ?_
    simp only [nz1, nz2]
    refine wpList_nil ?_
    refine then_n (hK15 _ _ ?_)
    refine wp_ret ?_
    have he28 : hawake_m = false := (show hawake_m = false from by unfold hawake_m; rw [if_neg hs16] <;> rfl)
    exact ⟨rfl, .bool false, res_t rfl rfl, ⟨by (rw [he28]; try rfl), hm14.below⟩⟩
  simp only [nz1, nz2, nz3]
  refine lvw 17 (.bool true) rfl rfl (run_mv rfl rfl) ?_
  simp only [nz1, nz2, nz3]
  refine lvw 18 (.int .i64 ((hdecode_m ((hencode_m (Hdr.mk ([97]) 420 0 0 3 0 (UInt8.ofNat 48) ([]) ([]))).1)).2)) rfl rfl (run_mv rfl rfl) ?_
  simp only [nz1, nz2, nz3]
  refine lvb 19 ((hdecode_m ((hencode_m (Hdr.mk ([97]) 420 0 0 3 0 (UInt8.ofNat 48) ([]) ([]))).1)).2 = 0) rfl rfl (z_eql ((hdecode_m ((hencode_m (Hdr.mk ([97]) 420 0 0 3 0 (UInt8.ofNat 48) ([]) ([]))).1)).2) 0 rfl rfl rfl) (fun hs17 => ?_) (fun hs17 => ?_)
  rotate_left
  · simp only [nz1, nz2, nz3]
    refine lvw 20 (.bool false) rfl rfl (run_pick rfl rfl rfl) ?_
    simp only [nz1, nz2, nz3]
    refine lvw 21 (.bool false) rfl rfl (run_mv rfl rfl) ?_
    simp only [nz1, nz2, nz3]
    refine lst_skip 22 rfl rfl ?_
    simp only [nz1, nz2, nz3]
    refine lst_skip 23 rfl rfl ?_
    simp only [nz1, nz2, nz3]
    refine lst_skip 24 rfl rfl ?_
    simp only [nz1, nz2, nz3]
    refine lvw 25 (.bool false) rfl rfl (run_pickf rfl rfl rfl) ?_
    simp only [nz1, nz2, nz3]
    refine lvw 26 (.bool false) rfl rfl (run_mv rfl rfl) ?_
    simp only [nz1, nz2, nz3]
    refine lst_skip 27 rfl rfl ?_
    simp only [nz1, nz2, nz3]
    refine lst_skip 28 rfl rfl ?_
    simp only [nz1, nz2, nz3]
    refine lst_skip 29 rfl rfl ?_
    simp only [nz1, nz2, nz3]
    refine lvw 30 (.bool false) rfl rfl (run_pickf rfl rfl rfl) ?_
    simp only [nz1, nz2, nz3]
    refine lvw 31 (.bool false) rfl rfl (run_mv rfl rfl) ?_
    simp only [nz1, nz2, nz3]
    refine lst_skip 32 rfl rfl ?_
    simp only [nz1, nz2, nz3]
    refine lst_skip 33 rfl rfl ?_
    simp only [nz1, nz2, nz3]
    refine lst_skip 34 rfl rfl ?_
    simp only [nz1, nz2, nz3]
    refine lvw 35 (.bool false) rfl rfl (run_pickf rfl rfl rfl) ?_
    simp only [nz1, nz2, nz3]
    refine lvw 36 (.bool false) rfl rfl (run_mv rfl rfl) ?_
    simp only [nz1, nz2, nz3]
    refine lst_skip 37 rfl rfl ?_
    simp only [nz1, nz2, nz3]
    refine lst_skip 38 rfl rfl ?_
    simp only [nz1, nz2, nz3]
    refine lst_skip 39 rfl rfl ?_
    simp only [nz1, nz2, nz3]
    refine lvw 40 (.bool false) rfl rfl (run_pickf rfl rfl rfl) ?_
    simp only [nz1, nz2, nz3]
    refine lvw 41 (.bool false) rfl rfl (run_mv rfl rfl) ?_
    simp only [nz1, nz2, nz3]
    refine lst_skip 42 rfl rfl ?_
    simp only [nz1, nz2, nz3]
    refine lst_skip 43 rfl rfl ?_
    simp only [nz1, nz2, nz3]
    refine lst_skip 44 rfl rfl ?_
    simp only [nz1, nz2, nz3]
    refine lvw 45 (.bool false) rfl rfl (run_pickf rfl rfl rfl) ?_
    simp only [nz1, nz2, nz3]
    refine lvw 0 (.bool false) rfl rfl (run_as rfl rfl) ?_
    simp only [nz1, nz2]
    refine wpList_nil ?_
    refine then_n (hK15 _ _ ?_)
    refine wp_ret ?_
    have he27 : hawake_m = false := (show hawake_m = false from by unfold hawake_m; rw [if_pos hs16, if_neg hs17] <;> rfl)
    exact ⟨rfl, .bool false, res_t rfl rfl, ⟨by (rw [he27]; try rfl), hm14.below⟩⟩
  simp only [nz1, nz2, nz3]
  refine lvw 20 (.bool true) rfl rfl (run_pick rfl rfl rfl) ?_
  simp only [nz1, nz2, nz3]
  refine lvw 21 (.bool true) rfl rfl (run_mv rfl rfl) ?_
  simp only [nz1, nz2, nz3]
  refine lvw 22 (.string (tx ((hencode_m (Hdr.mk ([97]) 420 0 0 3 0 (UInt8.ofNat 48) ([]) ([]))).1))) rfl rfl (run_mv rfl rfl) ?_
  simp only [nz1, nz2, nz3]
  refine lvw 23 (.int .i64 ((((hencode_m (Hdr.mk ([97]) 420 0 0 3 0 (UInt8.ofNat 48) ([]) ([]))).1).length : Nat) : Int)) rfl rfl (t_len rfl Tryd.underlying9 rfl) ?_
  simp only [nz1, nz2, nz3]
  refine lvb 24 (((hencode_m (Hdr.mk ([97]) 420 0 0 3 0 (UInt8.ofNat 48) ([]) ([]))).1).length = 512) rfl rfl (r_eql (((hencode_m (Hdr.mk ([97]) 420 0 0 3 0 (UInt8.ofNat 48) ([]) ([]))).1).length) 512 rfl rfl rfl) (fun hs18 => ?_) (fun hs18 => ?_)
  rotate_left
  · simp only [nz1, nz2, nz3]
    refine lvw 25 (.bool false) rfl rfl (run_pick rfl rfl rfl) ?_
    simp only [nz1, nz2, nz3]
    refine lvw 26 (.bool false) rfl rfl (run_mv rfl rfl) ?_
    simp only [nz1, nz2, nz3]
    refine lst_skip 27 rfl rfl ?_
    simp only [nz1, nz2, nz3]
    refine lst_skip 28 rfl rfl ?_
    simp only [nz1, nz2, nz3]
    refine lst_skip 29 rfl rfl ?_
    simp only [nz1, nz2, nz3]
    refine lvw 30 (.bool false) rfl rfl (run_pickf rfl rfl rfl) ?_
    simp only [nz1, nz2, nz3]
    refine lvw 31 (.bool false) rfl rfl (run_mv rfl rfl) ?_
    simp only [nz1, nz2, nz3]
    refine lst_skip 32 rfl rfl ?_
    simp only [nz1, nz2, nz3]
    refine lst_skip 33 rfl rfl ?_
    simp only [nz1, nz2, nz3]
    refine lst_skip 34 rfl rfl ?_
    simp only [nz1, nz2, nz3]
    refine lvw 35 (.bool false) rfl rfl (run_pickf rfl rfl rfl) ?_
    simp only [nz1, nz2, nz3]
    refine lvw 36 (.bool false) rfl rfl (run_mv rfl rfl) ?_
    simp only [nz1, nz2, nz3]
    refine lst_skip 37 rfl rfl ?_
    simp only [nz1, nz2, nz3]
    refine lst_skip 38 rfl rfl ?_
    simp only [nz1, nz2, nz3]
    refine lst_skip 39 rfl rfl ?_
    simp only [nz1, nz2, nz3]
    refine lvw 40 (.bool false) rfl rfl (run_pickf rfl rfl rfl) ?_
    simp only [nz1, nz2, nz3]
    refine lvw 41 (.bool false) rfl rfl (run_mv rfl rfl) ?_
    simp only [nz1, nz2, nz3]
    refine lst_skip 42 rfl rfl ?_
    simp only [nz1, nz2, nz3]
    refine lst_skip 43 rfl rfl ?_
    simp only [nz1, nz2, nz3]
    refine lst_skip 44 rfl rfl ?_
    simp only [nz1, nz2, nz3]
    refine lvw 45 (.bool false) rfl rfl (run_pickf rfl rfl rfl) ?_
    simp only [nz1, nz2, nz3]
    refine lvw 0 (.bool false) rfl rfl (run_as rfl rfl) ?_
    simp only [nz1, nz2]
    refine wpList_nil ?_
    refine then_n (hK15 _ _ ?_)
    refine wp_ret ?_
    have he26 : hawake_m = false := (show hawake_m = false from by unfold hawake_m; rw [if_pos hs16, if_pos hs17, if_neg hs18] <;> rfl)
    exact ⟨rfl, .bool false, res_t rfl rfl, ⟨by (rw [he26]; try rfl), hm14.below⟩⟩
  simp only [nz1, nz2, nz3]
  refine lvw 25 (.bool true) rfl rfl (run_pick rfl rfl rfl) ?_
  simp only [nz1, nz2, nz3]
  refine lvw 26 (.bool true) rfl rfl (run_mv rfl rfl) ?_
  simp only [nz1, nz2, nz3]
  refine lvw 27 (.string (tx ((hencode_m (Hdr.mk ([97]) 420 0 0 3 0 (UInt8.ofNat 48) ([]) ([]))).1))) rfl rfl (run_mv rfl rfl) ?_
  simp only [nz1, nz2, nz3]
  refine lvw 28 (.string (tx ((((hencode_m (Hdr.mk ([97]) 420 0 0 3 0 (UInt8.ofNat 48) ([]) ([]))).1).take 156).drop 148))) rfl rfl (t_cut ((hencode_m (Hdr.mk ([97]) 420 0 0 3 0 (UInt8.ofNat 48) ([]) ([]))).1) 148 156 (by omega) (by omega) Tryd.underlying9 rfl rfl rfl rfl) ?_
  simp only [nz1, nz2, nz3]
  refine lvb 29 (((((hencode_m (Hdr.mk ([97]) 420 0 0 3 0 (UInt8.ofNat 48) ([]) ([]))).1).take 156).drop 148) = [48, 48, 54, 49, 48, 49, 0, 32]) rfl rfl (t_eql ((((hencode_m (Hdr.mk ([97]) 420 0 0 3 0 (UInt8.ofNat 48) ([]) ([]))).1).take 156).drop 148) ([48, 48, 54, 49, 48, 49, 0, 32]) rfl rfl rfl) (fun hs19 => ?_) (fun hs19 => ?_)
  rotate_left
  · simp only [nz1, nz2, nz3]
    refine lvw 30 (.bool false) rfl rfl (run_pick rfl rfl rfl) ?_
    simp only [nz1, nz2, nz3]
    refine lvw 31 (.bool false) rfl rfl (run_mv rfl rfl) ?_
    simp only [nz1, nz2, nz3]
    refine lst_skip 32 rfl rfl ?_
    simp only [nz1, nz2, nz3]
    refine lst_skip 33 rfl rfl ?_
    simp only [nz1, nz2, nz3]
    refine lst_skip 34 rfl rfl ?_
    simp only [nz1, nz2, nz3]
    refine lvw 35 (.bool false) rfl rfl (run_pickf rfl rfl rfl) ?_
    simp only [nz1, nz2, nz3]
    refine lvw 36 (.bool false) rfl rfl (run_mv rfl rfl) ?_
    simp only [nz1, nz2, nz3]
    refine lst_skip 37 rfl rfl ?_
    simp only [nz1, nz2, nz3]
    refine lst_skip 38 rfl rfl ?_
    simp only [nz1, nz2, nz3]
    refine lst_skip 39 rfl rfl ?_
    simp only [nz1, nz2, nz3]
    refine lvw 40 (.bool false) rfl rfl (run_pickf rfl rfl rfl) ?_
    simp only [nz1, nz2, nz3]
    refine lvw 41 (.bool false) rfl rfl (run_mv rfl rfl) ?_
    simp only [nz1, nz2, nz3]
    refine lst_skip 42 rfl rfl ?_
    simp only [nz1, nz2, nz3]
    refine lst_skip 43 rfl rfl ?_
    simp only [nz1, nz2, nz3]
    refine lst_skip 44 rfl rfl ?_
    simp only [nz1, nz2, nz3]
    refine lvw 45 (.bool false) rfl rfl (run_pickf rfl rfl rfl) ?_
    simp only [nz1, nz2, nz3]
    refine lvw 0 (.bool false) rfl rfl (run_as rfl rfl) ?_
    simp only [nz1, nz2]
    refine wpList_nil ?_
    refine then_n (hK15 _ _ ?_)
    refine wp_ret ?_
    have he25 : hawake_m = false := (show hawake_m = false from by unfold hawake_m; rw [if_pos hs16, if_pos hs17, if_pos hs18, if_neg hs19] <;> rfl)
    exact ⟨rfl, .bool false, res_t rfl rfl, ⟨by (rw [he25]; try rfl), hm14.below⟩⟩
  simp only [nz1, nz2, nz3]
  refine lvw 30 (.bool true) rfl rfl (run_pick rfl rfl rfl) ?_
  simp only [nz1, nz2, nz3]
  refine lvw 31 (.bool true) rfl rfl (run_mv rfl rfl) ?_
  simp only [nz1, nz2, nz3]
  refine lvw 32 (.pointer (some ⟨g12, 0, none⟩)) rfl rfl (r_fa23_0 g12 0 rfl rfl) ?_
  simp only [nz1, nz2, nz3]
  refine lvw 33 (.string (tx (((hdecode_m ((hencode_m (Hdr.mk ([97]) 420 0 0 3 0 (UInt8.ofNat 48) ([]) ([]))).1)).1).name))) rfl rfl (r_load (hm14.at 0 rfl) rfl Tryd.underlying9 rfl rfl rfl) ?_
  simp only [nz1, nz2, nz3]
  refine lvb 34 (((hdecode_m ((hencode_m (Hdr.mk ([97]) 420 0 0 3 0 (UInt8.ofNat 48) ([]) ([]))).1)).1).name = [97]) rfl rfl (t_eql (((hdecode_m ((hencode_m (Hdr.mk ([97]) 420 0 0 3 0 (UInt8.ofNat 48) ([]) ([]))).1)).1).name) ([97]) rfl rfl rfl) (fun hs20 => ?_) (fun hs20 => ?_)
  rotate_left
  · simp only [nz1, nz2, nz3]
    refine lvw 35 (.bool false) rfl rfl (run_pick rfl rfl rfl) ?_
    simp only [nz1, nz2, nz3]
    refine lvw 36 (.bool false) rfl rfl (run_mv rfl rfl) ?_
    simp only [nz1, nz2, nz3]
    refine lst_skip 37 rfl rfl ?_
    simp only [nz1, nz2, nz3]
    refine lst_skip 38 rfl rfl ?_
    simp only [nz1, nz2, nz3]
    refine lst_skip 39 rfl rfl ?_
    simp only [nz1, nz2, nz3]
    refine lvw 40 (.bool false) rfl rfl (run_pickf rfl rfl rfl) ?_
    simp only [nz1, nz2, nz3]
    refine lvw 41 (.bool false) rfl rfl (run_mv rfl rfl) ?_
    simp only [nz1, nz2, nz3]
    refine lst_skip 42 rfl rfl ?_
    simp only [nz1, nz2, nz3]
    refine lst_skip 43 rfl rfl ?_
    simp only [nz1, nz2, nz3]
    refine lst_skip 44 rfl rfl ?_
    simp only [nz1, nz2, nz3]
    refine lvw 45 (.bool false) rfl rfl (run_pickf rfl rfl rfl) ?_
    simp only [nz1, nz2, nz3]
    refine lvw 0 (.bool false) rfl rfl (run_as rfl rfl) ?_
    simp only [nz1, nz2]
    refine wpList_nil ?_
    refine then_n (hK15 _ _ ?_)
    refine wp_ret ?_
    have he24 : hawake_m = false := (show hawake_m = false from by unfold hawake_m; rw [if_pos hs16, if_pos hs17, if_pos hs18, if_pos hs19, if_neg hs20] <;> rfl)
    exact ⟨rfl, .bool false, res_t rfl rfl, ⟨by (rw [he24]; try rfl), hm14.below⟩⟩
  simp only [nz1, nz2, nz3]
  refine lvw 35 (.bool true) rfl rfl (run_pick rfl rfl rfl) ?_
  simp only [nz1, nz2, nz3]
  refine lvw 36 (.bool true) rfl rfl (run_mv rfl rfl) ?_
  simp only [nz1, nz2, nz3]
  refine lvw 37 (.pointer (some ⟨g12, 4, none⟩)) rfl rfl (r_fa23_4 g12 0 rfl rfl) ?_
  simp only [nz1, nz2, nz3]
  refine lvw 38 (.int .i64 (((hdecode_m ((hencode_m (Hdr.mk ([97]) 420 0 0 3 0 (UInt8.ofNat 48) ([]) ([]))).1)).1).size)) rfl rfl (r_load (hm14.at 0 rfl) rfl Tryd.underlying3 rfl rfl rfl) ?_
  simp only [nz1, nz2, nz3]
  refine lvb 39 (((hdecode_m ((hencode_m (Hdr.mk ([97]) 420 0 0 3 0 (UInt8.ofNat 48) ([]) ([]))).1)).1).size = 3) rfl rfl (z_eql (((hdecode_m ((hencode_m (Hdr.mk ([97]) 420 0 0 3 0 (UInt8.ofNat 48) ([]) ([]))).1)).1).size) 3 rfl rfl rfl) (fun hs21 => ?_) (fun hs21 => ?_)
  · simp only [nz1, nz2, nz3]
    refine lvw 40 (.bool true) rfl rfl (run_pick rfl rfl rfl) ?_
    simp only [nz1, nz2, nz3]
    refine lvw 41 (.bool true) rfl rfl (run_mv rfl rfl) ?_
    simp only [nz1, nz2, nz3]
    refine lvw 42 (.pointer (some ⟨g12, 1, none⟩)) rfl rfl (r_fa23_1 g12 0 rfl rfl) ?_
    simp only [nz1, nz2, nz3]
    refine lvw 43 (.int .i64 (((hdecode_m ((hencode_m (Hdr.mk ([97]) 420 0 0 3 0 (UInt8.ofNat 48) ([]) ([]))).1)).1).mode)) rfl rfl (r_load (hm14.at 0 rfl) rfl Tryd.underlying3 rfl rfl rfl) ?_
    simp only [nz1, nz2, nz3]
    refine lvw 44 (.bool (decide (((hdecode_m ((hencode_m (Hdr.mk ([97]) 420 0 0 3 0 (UInt8.ofNat 48) ([]) ([]))).1)).1).mode = 420))) rfl rfl (z_eql (((hdecode_m ((hencode_m (Hdr.mk ([97]) 420 0 0 3 0 (UInt8.ofNat 48) ([]) ([]))).1)).1).mode) 420 rfl rfl rfl) ?_
    simp only [nz1, nz2, nz3]
    refine lvw 45 (.bool (decide (((hdecode_m ((hencode_m (Hdr.mk ([97]) 420 0 0 3 0 (UInt8.ofNat 48) ([]) ([]))).1)).1).mode = 420))) rfl rfl (run_pick rfl rfl rfl) ?_
    simp only [nz1, nz2, nz3]
    refine lvw 0 (.bool (decide (((hdecode_m ((hencode_m (Hdr.mk ([97]) 420 0 0 3 0 (UInt8.ofNat 48) ([]) ([]))).1)).1).mode = 420))) rfl rfl (run_as rfl rfl) ?_
    simp only [nz1, nz2]
    refine wpList_nil ?_
    refine then_n (hK15 _ _ ?_)
    refine wp_ret ?_
    have he22 : hawake_m = (decide (((hdecode_m ((hencode_m (Hdr.mk ([97]) 420 0 0 3 0 (UInt8.ofNat 48) ([]) ([]))).1)).1).mode = 420)) := (show hawake_m = (decide (((hdecode_m ((hencode_m (Hdr.mk ([97]) 420 0 0 3 0 (UInt8.ofNat 48) ([]) ([]))).1)).1).mode = 420)) from by unfold hawake_m; rw [if_pos hs16, if_pos hs17, if_pos hs18, if_pos hs19, if_pos hs20, if_pos hs21] <;> rfl)
    exact ⟨rfl, .bool (decide (((hdecode_m ((hencode_m (Hdr.mk ([97]) 420 0 0 3 0 (UInt8.ofNat 48) ([]) ([]))).1)).1).mode = 420)), res_t rfl rfl, ⟨by (rw [he22]; try rfl), hm14.below⟩⟩
  simp only [nz1, nz2, nz3]
  refine lvw 40 (.bool false) rfl rfl (run_pick rfl rfl rfl) ?_
  simp only [nz1, nz2, nz3]
  refine lvw 41 (.bool false) rfl rfl (run_mv rfl rfl) ?_
  simp only [nz1, nz2, nz3]
  refine lst_skip 42 rfl rfl ?_
  simp only [nz1, nz2, nz3]
  refine lst_skip 43 rfl rfl ?_
  simp only [nz1, nz2, nz3]
  refine lst_skip 44 rfl rfl ?_
  simp only [nz1, nz2, nz3]
  refine lvw 45 (.bool false) rfl rfl (run_pickf rfl rfl rfl) ?_
  simp only [nz1, nz2, nz3]
  refine lvw 0 (.bool false) rfl rfl (run_as rfl rfl) ?_
  simp only [nz1, nz2]
  refine wpList_nil ?_
  refine then_n (hK15 _ _ ?_)
  refine wp_ret ?_
  have he23 : hawake_m = false := (show hawake_m = false from by unfold hawake_m; rw [if_pos hs16, if_pos hs17, if_pos hs18, if_pos hs19, if_pos hs20, if_neg hs21] <;> rfl)
  exact ⟨rfl, .bool false, res_t rfl rfl, ⟨by (rw [he23]; try rfl), hm14.below⟩⟩
theorem run_hawake {o : Oper} {a : Act} {w : World} (ho : o.op = .call { callee := .value (.func 17), args := #[], argTypes := #[] })  :
    (execOp a.eval o).run Tryd.prog w = .ok (.enter 17 #[]) w := by
  unfold execOp
  simp only [ho]
  have hf : a.eval (.func 17) = .func (.func 17) #[] #[] := rfl
  generalize a.eval = f at *
  go_simp
end Go.Proofs.YtglnifckngcpkaaDoor.Hd
