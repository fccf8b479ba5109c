/- Layer 9: HeaderBlank. -/
import Derived.Test.YtglnifckngcpkaaDoorHdF
namespace Go.Proofs.YtglnifckngcpkaaDoor.Hd
open Go.RowKit
open Go.Proofs.YtglnifckngcpkaaDoor.Sym Go.Proofs.YtglnifckngcpkaaDoor.Mem
open Go.Proofs.YtglnifckngcpkaaDoor.Sx hiding Mm m_alloc m_store m_put m_call m_callx m_make m_append r_string r_ixS
set_option linter.unusedVariables false
attribute [local irreducible] octal_m put_m get_m hsum_m fits_m fill_m rep_m ib_m hcut_m cut_m hencode_m hdecode_m blank_m
attribute [local irreducible] wpList Oper.wp

def lblank_m (h : Hdr) : Bool :=
  if hawake_m = true then
    if (blank_m (List.replicate 512 (0 : UInt8))) = true then
      if (hdecode_m (List.replicate 512 (0 : UInt8))).2 = 2 then
        if ¬ (hencode_m h).2 = 0 then
          true
        else
          (!(blank_m ((hencode_m h).1)))
      else
        false
    else
      false
  else
    false

set_option maxHeartbeats 4000000 in
set_option maxRecDepth 100000 in
theorem lblank_any (h : Hdr) (w : World)  (hT : Laid w) (hp0 : -9223372036854775808 ≤ h.mode) (hp1 : h.mode ≤ 9223372036854775807) (hp2 : -9223372036854775808 ≤ h.uid) (hp3 : h.uid ≤ 9223372036854775807) (hp4 : -9223372036854775808 ≤ h.gid) (hp5 : h.gid ≤ 9223372036854775807) (hp6 : -9223372036854775808 ≤ h.size) (hp7 : h.size ≤ 9223372036854775807) (hp8 : -9223372036854775808 ≤ h.time) (hp9 : h.time ≤ 9223372036854775807) : Calls Tryd.prog 6 #[.agg #[.string (tx h.name), .int .i64 (h.mode), .int .i64 (h.uid), .int .i64 (h.gid), .int .i64 (h.size), .int .i64 (h.time), .int .u8 ((h.flag.toNat : Nat) : Int), .string (tx h.link), .string (tx h.pfx)]] w (fun e w' => e = .returned (.bool ((lblank_m h))) ∧ Below w.heap.size w w') := by
  go_enter Tryd.func6, Tryd.ntmps6
  have hm00 := Mm.nil none (fun _ => True) w
  have hm0 := hm00
  refine wp_seq_k (fun K1 hK1 => ?_)
  refine wp_region_lit ?_
  refine lst rfl (m_alloc (c := #[.string (tx h.name), .int .i64 (h.mode), .int .i64 (h.uid), .int .i64 (h.gid), .int .i64 (h.size), .int .i64 (h.time), .int .u8 ((h.flag.toNat : Nat) : Int), .string (tx h.link), .string (tx h.pfx)]) (T := 23) hm0 1 rfl (run_box rfl rfl) (fun g4 w2 (hm3 : Mm none (fun _ => True) w w2 [.blk g4 #[.string (tx h.name), .int .i64 (h.mode), .int .i64 (h.uid), .int .i64 (h.gid), .int .i64 (h.size), .int .i64 (h.time), .int .u8 ((h.flag.toNat : Nat) : Int), .string (tx h.link), .string (tx h.pfx)] 23]) => ?_))
  simp only [nz1, nz2, nz3]
  refine lvw 2 (.bool false) rfl rfl (run_as rfl rfl) ?_
  simp only [nz1, nz2, nz3]
  refine wpList_nil ?_
  refine then_n (hK1 _ _ ?_)
  refine wp_seq_k (fun K5 hK5 => ?_)
  refine wp_region_lit ?_
  refine lvw 9 (.agg #[.string (tx h.name), .int .i64 (h.mode), .int .i64 (h.uid), .int .i64 (h.gid), .int .i64 (h.size), .int .i64 (h.time), .int .u8 ((h.flag.toNat : Nat) : Int), .string (tx h.link), .string (tx h.pfx)]) rfl rfl (r_whole (hm3.at 0 rfl) Tryd.underlying23 rfl (by exact sz_23) rfl rfl) ?_
  simp only [nz1, nz2, nz3]
  refine lst rfl (m_call hm3 10 (.tuple #[.string (tx ((hencode_m h).1)), .int .i64 ((hencode_m h).2)]) rfl (run_hencode rfl rfl) (hencode_any h  _  (Laid.below hT hm3.below) (by first | omega | assumption | (simp; done) | (simp; omega) | (simp only [List.length_append, List.length_cons, List.length_nil]; omega) | (simp only [List.length_append, List.length_cons, List.length_nil] at *; omega) | decide) (by first | omega | assumption | (simp; done) | (simp; omega) | (simp only [List.length_append, List.length_cons, List.length_nil]; omega) | (simp only [List.length_append, List.length_cons, List.length_nil] at *; omega) | decide) (by first | omega | assumption | (simp; done) | (simp; omega) | (simp only [List.length_append, List.length_cons, List.length_nil]; omega) | (simp only [List.length_append, List.length_cons, List.length_nil] at *; omega) | decide) (by first | omega | assumption | (simp; done) | (simp; omega) | (simp only [List.length_append, List.length_cons, List.length_nil]; omega) | (simp only [List.length_append, List.length_cons, List.length_nil] at *; omega) | decide) (by first | omega | assumption | (simp; done) | (simp; omega) | (simp only [List.length_append, List.length_cons, List.length_nil]; omega) | (simp only [List.length_append, List.length_cons, List.length_nil] at *; omega) | decide) (by first | omega | assumption | (simp; done) | (simp; omega) | (simp only [List.length_append, List.length_cons, List.length_nil]; omega) | (simp only [List.length_append, List.length_cons, List.length_nil] at *; omega) | decide) (by first | omega | assumption | (simp; done) | (simp; omega) | (simp only [List.length_append, List.length_cons, List.length_nil]; omega) | (simp only [List.length_append, List.length_cons, List.length_nil] at *; omega) | decide) (by first | omega | assumption | (simp; done) | (simp; omega) | (simp only [List.length_append, List.length_cons, List.length_nil]; omega) | (simp only [List.length_append, List.length_cons, List.length_nil] at *; omega) | decide) (by first | omega | assumption | (simp; done) | (simp; omega) | (simp only [List.length_append, List.length_cons, List.length_nil]; omega) | (simp only [List.length_append, List.length_cons, List.length_nil] at *; omega) | decide) (by first | omega | assumption | (simp; done) | (simp; omega) | (simp only [List.length_append, List.length_cons, List.length_nil]; omega) | (simp only [List.length_append, List.length_cons, List.length_nil] at *; omega) | decide)) (fun w6 (hm7 : Mm none (fun _ => True) w w6 [.blk g4 #[.string (tx h.name), .int .i64 (h.mode), .int .i64 (h.uid), .int .i64 (h.gid), .int .i64 (h.size), .int .i64 (h.time), .int .u8 ((h.flag.toNat : Nat) : Int), .string (tx h.link), .string (tx h.pfx)] 23]) => ?_))
  have hf8 : (hencode_m h).1.length ≤ 512 := hencode_len h
  have hf9 : ¬ (hencode_m h).2 = 0 ∨ (h.name.length ≤ 100 ∧ h.link.length ≤ 100 ∧ h.pfx.length ≤ 155) := hencode_fit h
  simp only [nz1, nz2, nz3]
  refine lvw 8 (.tuple #[.string (tx ((hencode_m h).1)), .int .i64 ((hencode_m h).2)]) rfl rfl (run_mv rfl rfl) ?_
  simp only [nz1, nz2, nz3]
  refine lvw 11 (.string (tx ((hencode_m h).1))) rfl rfl (run_ex rfl rfl rfl) ?_
  simp only [nz1, nz2, nz3]
  refine lvw 12 (.int .i64 ((hencode_m h).2)) rfl rfl (run_ex rfl rfl rfl) ?_
  simp only [nz1, nz2, nz3]
  refine lvw 3 (.string (tx ((hencode_m h).1))) rfl rfl (run_as rfl rfl) ?_
  simp only [nz1, nz2, nz3]
  refine lvw 4 (.int .i64 ((hencode_m h).2)) rfl rfl (run_as rfl rfl) ?_
  simp only [nz1, nz2, nz3]
  refine wpList_nil ?_
  refine then_n (hK5 _ _ ?_)
  refine wp_seq_k (fun K10 hK10 => ?_)
  refine wp_region_lit ?_
  obtain ⟨iq, hiq, hz1, hz2, hz3⟩ := inf_5
  refine lst rfl (m_makeR (enc := eB) (size := 1) 512 (0 : UInt8) iq _ hm7 13 rfl rfl Tryd.underlying34 hiq hz1 hz2 hz3 eB_len rfl rfl rfl (by first | omega | (simp; omega)) (by first | omega | (simp; omega)) (fun v13 w11 (hm12 : Mm none (fun _ => True) w w11 [.blk g4 #[.string (tx h.name), .int .i64 (h.mode), .int .i64 (h.uid), .int .i64 (h.gid), .int .i64 (h.size), .int .i64 (h.time), .int .u8 ((h.flag.toNat : Nat) : Int), .string (tx h.link), .string (tx h.pfx)] 23, .row v13 (List.replicate 512 (0 : UInt8)).length ((List.replicate 512 (0 : UInt8)).flatMap eB) 5 1]) => ?_))
  simp only [nz1, nz2, nz3]
  refine lvw 14 (.string (tx (List.replicate 512 (0 : UInt8)))) rfl rfl (r_stringR (List.replicate 512 (0 : UInt8)) (by have h := (Rs.row (hm12.row 1 rfl)); unfold Rs at h; rw [eB_map] at h; exact h) Tryd.underlying34 Tryd.underlying5 Tryd.underlying9 rfl rfl) ?_
  simp only [nz1, nz2, nz3]
  refine lvw 5 (.string (tx (List.replicate 512 (0 : UInt8)))) rfl rfl (run_as rfl rfl) ?_
  simp only [nz1, nz2, nz3]
  refine wpList_nil ?_
  refine then_n (hK10 _ _ ?_)
  refine wp_seq_k (fun K14 hK14 => ?_)
  refine wp_region_lit ?_
  refine lvw 16 (.string (tx (List.replicate 512 (0 : UInt8)))) rfl rfl (run_mv rfl rfl) ?_
  simp only [nz1, nz2, nz3]
  refine lst rfl (m_call hm12 17 (.tuple #[.agg #[.string (tx (((hdecode_m (List.replicate 512 (0 : UInt8))).1).name)), .int .i64 (((hdecode_m (List.replicate 512 (0 : UInt8))).1).mode), .int .i64 (((hdecode_m (List.replicate 512 (0 : UInt8))).1).uid), .int .i64 (((hdecode_m (List.replicate 512 (0 : UInt8))).1).gid), .int .i64 (((hdecode_m (List.replicate 512 (0 : UInt8))).1).size), .int .i64 (((hdecode_m (List.replicate 512 (0 : UInt8))).1).time), .int .u8 (((((hdecode_m (List.replicate 512 (0 : UInt8))).1).flag).toNat : Nat) : Int), .string (tx (((hdecode_m (List.replicate 512 (0 : UInt8))).1).link)), .string (tx (((hdecode_m (List.replicate 512 (0 : UInt8))).1).pfx))], .int .i64 ((hdecode_m (List.replicate 512 (0 : UInt8))).2)]) rfl (run_hdecode rfl rfl) (hdecode_any (List.replicate 512 (0 : UInt8))  _  (Laid.below hT hm12.below) ) (fun w15 (hm16 : Mm none (fun _ => True) w w15 [.blk g4 #[.string (tx h.name), .int .i64 (h.mode), .int .i64 (h.uid), .int .i64 (h.gid), .int .i64 (h.size), .int .i64 (h.time), .int .u8 ((h.flag.toNat : Nat) : Int), .string (tx h.link), .string (tx h.pfx)] 23, .row v13 (List.replicate 512 (0 : UInt8)).length ((List.replicate 512 (0 : UInt8)).flatMap eB) 5 1]) => ?_))
  simp only [nz1, nz2, nz3]
  refine lvw 15 (.tuple #[.agg #[.string (tx (((hdecode_m (List.replicate 512 (0 : UInt8))).1).name)), .int .i64 (((hdecode_m (List.replicate 512 (0 : UInt8))).1).mode), .int .i64 (((hdecode_m (List.replicate 512 (0 : UInt8))).1).uid), .int .i64 (((hdecode_m (List.replicate 512 (0 : UInt8))).1).gid), .int .i64 (((hdecode_m (List.replicate 512 (0 : UInt8))).1).size), .int .i64 (((hdecode_m (List.replicate 512 (0 : UInt8))).1).time), .int .u8 (((((hdecode_m (List.replicate 512 (0 : UInt8))).1).flag).toNat : Nat) : Int), .string (tx (((hdecode_m (List.replicate 512 (0 : UInt8))).1).link)), .string (tx (((hdecode_m (List.replicate 512 (0 : UInt8))).1).pfx))], .int .i64 ((hdecode_m (List.replicate 512 (0 : UInt8))).2)]) rfl rfl (run_mv rfl rfl) ?_
  simp only [nz1, nz2, nz3]
  refine lvw 18 (.agg #[.string (tx (((hdecode_m (List.replicate 512 (0 : UInt8))).1).name)), .int .i64 (((hdecode_m (List.replicate 512 (0 : UInt8))).1).mode), .int .i64 (((hdecode_m (List.replicate 512 (0 : UInt8))).1).uid), .int .i64 (((hdecode_m (List.replicate 512 (0 : UInt8))).1).gid), .int .i64 (((hdecode_m (List.replicate 512 (0 : UInt8))).1).size), .int .i64 (((hdecode_m (List.replicate 512 (0 : UInt8))).1).time), .int .u8 (((((hdecode_m (List.replicate 512 (0 : UInt8))).1).flag).toNat : Nat) : Int), .string (tx (((hdecode_m (List.replicate 512 (0 : UInt8))).1).link)), .string (tx (((hdecode_m (List.replicate 512 (0 : UInt8))).1).pfx))]) rfl rfl (run_ex rfl rfl rfl) ?_
  simp only [nz1, nz2, nz3]
  refine lvw 19 (.int .i64 ((hdecode_m (List.replicate 512 (0 : UInt8))).2)) rfl rfl (run_ex rfl rfl rfl) ?_
  simp only [nz1, nz2, nz3]
  refine lst rfl (m_alloc (c := #[.string (tx ([])), .int .i64 0, .int .i64 0, .int .i64 0, .int .i64 0, .int .i64 0, .int .u8 0, .string (tx ([])), .string (tx ([]))]) (T := 23) hm16 6 rfl (by unfold execOp; go_simp; try rfl) (fun g19 w17 (hm18 : Mm none (fun _ => True) w w17 [.blk g4 #[.string (tx h.name), .int .i64 (h.mode), .int .i64 (h.uid), .int .i64 (h.gid), .int .i64 (h.size), .int .i64 (h.time), .int .u8 ((h.flag.toNat : Nat) : Int), .string (tx h.link), .string (tx h.pfx)] 23, .row v13 (List.replicate 512 (0 : UInt8)).length ((List.replicate 512 (0 : UInt8)).flatMap eB) 5 1, .blk g19 #[.string (tx ([])), .int .i64 0, .int .i64 0, .int .i64 0, .int .i64 0, .int .i64 0, .int .u8 0, .string (tx ([])), .string (tx ([]))] 23]) => ?_))
  simp only [nz1, nz2, nz3]
  refine lst rfl (m_store 2 23 _ _ 0 (.agg #[.string (tx (((hdecode_m (List.replicate 512 (0 : UInt8))).1).name)), .int .i64 (((hdecode_m (List.replicate 512 (0 : UInt8))).1).mode), .int .i64 (((hdecode_m (List.replicate 512 (0 : UInt8))).1).uid), .int .i64 (((hdecode_m (List.replicate 512 (0 : UInt8))).1).gid), .int .i64 (((hdecode_m (List.replicate 512 (0 : UInt8))).1).size), .int .i64 (((hdecode_m (List.replicate 512 (0 : UInt8))).1).time), .int .u8 (((((hdecode_m (List.replicate 512 (0 : UInt8))).1).flag).toNat : Nat) : Int), .string (tx (((hdecode_m (List.replicate 512 (0 : UInt8))).1).link)), .string (tx (((hdecode_m (List.replicate 512 (0 : UInt8))).1).pfx))]) (old := #[.string (tx ([])), .int .i64 0, .int .i64 0, .int .i64 0, .int .i64 0, .int .i64 0, .int .u8 0, .string (tx ([])), .string (tx ([]))]) (new := #[.string (tx (((hdecode_m (List.replicate 512 (0 : UInt8))).1).name)), .int .i64 (((hdecode_m (List.replicate 512 (0 : UInt8))).1).mode), .int .i64 (((hdecode_m (List.replicate 512 (0 : UInt8))).1).uid), .int .i64 (((hdecode_m (List.replicate 512 (0 : UInt8))).1).gid), .int .i64 (((hdecode_m (List.replicate 512 (0 : UInt8))).1).size), .int .i64 (((hdecode_m (List.replicate 512 (0 : UInt8))).1).time), .int .u8 (((((hdecode_m (List.replicate 512 (0 : UInt8))).1).flag).toNat : Nat) : Int), .string (tx (((hdecode_m (List.replicate 512 (0 : UInt8))).1).link)), .string (tx (((hdecode_m (List.replicate 512 (0 : UInt8))).1).pfx))]) hm18 rfl rfl rfl rfl rfl (by exact sz_23) (show 0 + 9 ≤ 9 from by decide) (by simp [Value.cells, Value.oneCell']) rfl (fun w20 (hm21 : Mm none (fun _ => True) w w20 [.blk g4 #[.string (tx h.name), .int .i64 (h.mode), .int .i64 (h.uid), .int .i64 (h.gid), .int .i64 (h.size), .int .i64 (h.time), .int .u8 ((h.flag.toNat : Nat) : Int), .string (tx h.link), .string (tx h.pfx)] 23, .row v13 (List.replicate 512 (0 : UInt8)).length ((List.replicate 512 (0 : UInt8)).flatMap eB) 5 1, .blk g19 #[.string (tx (((hdecode_m (List.replicate 512 (0 : UInt8))).1).name)), .int .i64 (((hdecode_m (List.replicate 512 (0 : UInt8))).1).mode), .int .i64 (((hdecode_m (List.replicate 512 (0 : UInt8))).1).uid), .int .i64 (((hdecode_m (List.replicate 512 (0 : UInt8))).1).gid), .int .i64 (((hdecode_m (List.replicate 512 (0 : UInt8))).1).size), .int .i64 (((hdecode_m (List.replicate 512 (0 : UInt8))).1).time), .int .u8 (((((hdecode_m (List.replicate 512 (0 : UInt8))).1).flag).toNat : Nat) : Int), .string (tx (((hdecode_m (List.replicate 512 (0 : UInt8))).1).link)), .string (tx (((hdecode_m (List.replicate 512 (0 : UInt8))).1).pfx))] 23]) => ?_))
  refine lvw 7 (.int .i64 ((hdecode_m (List.replicate 512 (0 : UInt8))).2)) rfl rfl (run_as rfl rfl) ?_
  simp only [nz1, nz2, nz3]
  refine wpList_nil ?_
  refine then_n (hK14 _ _ ?_)
  refine wp_seq_k (fun K22 hK22 => ?_)
  refine wp_region_lit ?_
  refine lst rfl (m_call hm21 20 (.bool (hawake_m)) rfl (run_hawake rfl) (hawake_any   _  (Laid.below hT hm21.below) ) (fun w23 (hm24 : Mm none (fun _ => True) w w23 [.blk g4 #[.string (tx h.name), .int .i64 (h.mode), .int .i64 (h.uid), .int .i64 (h.gid), .int .i64 (h.size), .int .i64 (h.time), .int .u8 ((h.flag.toNat : Nat) : Int), .string (tx h.link), .string (tx h.pfx)] 23, .row v13 (List.replicate 512 (0 : UInt8)).length ((List.replicate 512 (0 : UInt8)).flatMap eB) 5 1, .blk g19 #[.string (tx (((hdecode_m (List.replicate 512 (0 : UInt8))).1).name)), .int .i64 (((hdecode_m (List.replicate 512 (0 : UInt8))).1).mode), .int .i64 (((hdecode_m (List.replicate 512 (0 : UInt8))).1).uid), .int .i64 (((hdecode_m (List.replicate 512 (0 : UInt8))).1).gid), .int .i64 (((hdecode_m (List.replicate 512 (0 : UInt8))).1).size), .int .i64 (((hdecode_m (List.replicate 512 (0 : UInt8))).1).time), .int .u8 (((((hdecode_m (List.replicate 512 (0 : UInt8))).1).flag).toNat : Nat) : Int), .string (tx (((hdecode_m (List.replicate 512 (0 : UInt8))).1).link)), .string (tx (((hdecode_m (List.replicate 512 (0 : UInt8))).1).pfx))] 23]) => ?_))
  simp only [nz1, nz2, nz3]
  by_cases hs25 : hawake_m = true
  rotate_left
  · rw [(Bool.eq_false_iff.2 hs25 : hawake_m = false)]
    refine lvw 21 (.bool false) rfl rfl (run_mv rfl rfl) ?_
    simp only [nz1, nz2, nz3]
    refine lst_skip 22 rfl rfl ?_
    simp only [nz1, nz2, nz3]
    refine lst_skip 23 rfl rfl ?_
    simp only [nz1, nz2, nz3]
    refine lvw 24 (.bool false) rfl rfl (run_pickf rfl rfl rfl) ?_
    simp only [nz1, nz2, nz3]
    refine lvw 25 (.bool false) rfl rfl (run_mv rfl rfl) ?_
    simp only [nz1, nz2, nz3]
    refine lst_skip 26 rfl rfl ?_
    simp only [nz1, nz2, nz3]
    refine lst_skip 27 rfl rfl ?_
    simp only [nz1, nz2, nz3]
    refine lvw 28 (.bool false) rfl rfl (run_pickf rfl rfl rfl) ?_
    simp only [nz1, nz2, nz3]
    refine lvw 29 (.bool false) rfl rfl (run_mv rfl rfl) ?_
    simp only [nz1, nz2, nz3]
    refine lst_skip 30 rfl rfl ?_
    simp only [nz1, nz2, nz3]
    refine lst_skip 31 rfl rfl ?_
    simp only [nz1, nz2, nz3]
    refine lst_skip 32 rfl rfl ?_
    simp only [nz1, nz2, nz3]
    refine lst_skip 33 rfl rfl ?_
    simp only [nz1, nz2, nz3]
    refine lst_skip 34 rfl rfl ?_
    simp only [nz1, nz2, nz3]
    refine lst_skip 35 rfl rfl ?_
    simp only [nz1, nz2, nz3]
    refine lst_skip 36 rfl rfl ?_
    simp only [nz1, nz2, nz3]
    refine lvw 37 (.bool false) rfl rfl (run_pickf rfl rfl rfl) ?_
    simp only [nz1, nz2, nz3]
    refine lvw 2 (.bool false) rfl rfl (run_as rfl rfl) ?_
    simp only [nz1, nz2, nz3]
    refine wpList_nil ?_
    refine then_n (hK22 _ _ ?_)
    refine wp_ret ?_
    have he37 : lblank_m h = false := (show lblank_m h = false from by unfold lblank_m; rw [if_neg hs25] <;> rfl)
    exact ⟨rfl, .bool false, res_t rfl rfl, ⟨by (rw [he37]; try rfl), hm24.below⟩⟩
  rw [(hs25 : hawake_m = true)]
  refine lvw 21 (.bool true) rfl rfl (run_mv rfl rfl) ?_
  simp only [nz1, nz2, nz3]
  refine lvw 22 (.string (tx (List.replicate 512 (0 : UInt8)))) rfl rfl (run_mv rfl rfl) ?_
  simp only [nz1, nz2, nz3]
  refine lst rfl (m_call hm24 23 (.bool ((blank_m (List.replicate 512 (0 : UInt8))))) rfl (run_blank rfl rfl) (blank_any (List.replicate 512 (0 : UInt8))  _  ) (fun w26 (hm27 : Mm none (fun _ => True) w w26 [.blk g4 #[.string (tx h.name), .int .i64 (h.mode), .int .i64 (h.uid), .int .i64 (h.gid), .int .i64 (h.size), .int .i64 (h.time), .int .u8 ((h.flag.toNat : Nat) : Int), .string (tx h.link), .string (tx h.pfx)] 23, .row v13 (List.replicate 512 (0 : UInt8)).length ((List.replicate 512 (0 : UInt8)).flatMap eB) 5 1, .blk g19 #[.string (tx (((hdecode_m (List.replicate 512 (0 : UInt8))).1).name)), .int .i64 (((hdecode_m (List.replicate 512 (0 : UInt8))).1).mode), .int .i64 (((hdecode_m (List.replicate 512 (0 : UInt8))).1).uid), .int .i64 (((hdecode_m (List.replicate 512 (0 : UInt8))).1).gid), .int .i64 (((hdecode_m (List.replicate 512 (0 : UInt8))).1).size), .int .i64 (((hdecode_m (List.replicate 512 (0 : UInt8))).1).time), .int .u8 (((((hdecode_m (List.replicate 512 (0 : UInt8))).1).flag).toNat : Nat) : Int), .string (tx (((hdecode_m (List.replicate 512 (0 : UInt8))).1).link)), .string (tx (((hdecode_m (List.replicate 512 (0 : UInt8))).1).pfx))] 23]) => ?_))
  simp only [nz1, nz2, nz3]
  by_cases hs28 : (blank_m (List.replicate 512 (0 : UInt8))) = true
  rotate_left
  · rw [(Bool.eq_false_iff.2 hs28 : (blank_m (List.replicate 512 (0 : UInt8))) = false)]
    refine lvw 24 (.bool false) rfl rfl (run_pick rfl rfl rfl) ?_
    simp only [nz1, nz2, nz3]
    refine lvw 25 (.bool false) rfl rfl (run_mv rfl rfl) ?_
    simp only [nz1, nz2, nz3]
    refine lst_skip 26 rfl rfl ?_
    simp only [nz1, nz2, nz3]
    refine lst_skip 27 rfl rfl ?_
    simp only [nz1, nz2, nz3]
    refine lvw 28 (.bool false) rfl rfl (run_pickf rfl rfl rfl) ?_
    simp only [nz1, nz2, nz3]
    refine lvw 29 (.bool false) rfl rfl (run_mv rfl rfl) ?_
    simp only [nz1, nz2, nz3]
    refine lst_skip 30 rfl rfl ?_
    simp only [nz1, nz2, nz3]
    refine lst_skip 31 rfl rfl ?_
    simp only [nz1, nz2, nz3]
    refine lst_skip 32 rfl rfl ?_
    simp only [nz1, nz2, nz3]
    refine lst_skip 33 rfl rfl ?_
    simp only [nz1, nz2, nz3]
    refine lst_skip 34 rfl rfl ?_
    simp only [nz1, nz2, nz3]
    refine lst_skip 35 rfl rfl ?_
    simp only [nz1, nz2, nz3]
    refine lst_skip 36 rfl rfl ?_
    simp only [nz1, nz2, nz3]
    refine lvw 37 (.bool false) rfl rfl (run_pickf rfl rfl rfl) ?_
    simp only [nz1, nz2, nz3]
    refine lvw 2 (.bool false) rfl rfl (run_as rfl rfl) ?_
    simp only [nz1, nz2, nz3]
    refine wpList_nil ?_
    refine then_n (hK22 _ _ ?_)
    refine wp_ret ?_
    have he36 : lblank_m h = false := (show lblank_m h = false from by unfold lblank_m; rw [if_pos hs25, if_neg hs28] <;> rfl)
    exact ⟨rfl, .bool false, res_t rfl rfl, ⟨by (rw [he36]; try rfl), hm27.below⟩⟩
  rw [(hs28 : (blank_m (List.replicate 512 (0 : UInt8))) = true)]
  refine lvw 24 (.bool true) rfl rfl (run_pick rfl rfl rfl) ?_
  simp only [nz1, nz2, nz3]
  refine lvw 25 (.bool true) rfl rfl (run_mv rfl rfl) ?_
  simp only [nz1, nz2, nz3]
  refine lvw 26 (.int .i64 ((hdecode_m (List.replicate 512 (0 : UInt8))).2)) rfl rfl (run_mv rfl rfl) ?_
  simp only [nz1, nz2, nz3]
  refine lvb 27 ((hdecode_m (List.replicate 512 (0 : UInt8))).2 = 2) rfl rfl (z_eql ((hdecode_m (List.replicate 512 (0 : UInt8))).2) 2 rfl rfl rfl) (fun hs29 => ?_) (fun hs29 => ?_)
  rotate_left
  · simp only [nz1, nz2, nz3]
    refine lvw 28 (.bool false) rfl rfl (run_pick rfl rfl rfl) ?_
    simp only [nz1, nz2, nz3]
    refine lvw 29 (.bool false) rfl rfl (run_mv rfl rfl) ?_
    simp only [nz1, nz2, nz3]
    refine lst_skip 30 rfl rfl ?_
    simp only [nz1, nz2, nz3]
    refine lst_skip 31 rfl rfl ?_
    simp only [nz1, nz2, nz3]
    refine lst_skip 32 rfl rfl ?_
    simp only [nz1, nz2, nz3]
    refine lst_skip 33 rfl rfl ?_
    simp only [nz1, nz2, nz3]
    refine lst_skip 34 rfl rfl ?_
    simp only [nz1, nz2, nz3]
    refine lst_skip 35 rfl rfl ?_
    simp only [nz1, nz2, nz3]
    refine lst_skip 36 rfl rfl ?_
    simp only [nz1, nz2, nz3]
    refine lvw 37 (.bool false) rfl rfl (run_pickf rfl rfl rfl) ?_
    simp only [nz1, nz2, nz3]
    refine lvw 2 (.bool false) rfl rfl (run_as rfl rfl) ?_
    simp only [nz1, nz2, nz3]
    refine wpList_nil ?_
    refine then_n (hK22 _ _ ?_)
    refine wp_ret ?_
    have he35 : lblank_m h = false := (show lblank_m h = false from by unfold lblank_m; rw [if_pos hs25, if_pos hs28, if_neg hs29] <;> rfl)
    exact ⟨rfl, .bool false, res_t rfl rfl, ⟨by (rw [he35]; try rfl), hm27.below⟩⟩
  simp only [nz1, nz2, nz3]
  refine lvw 28 (.bool true) rfl rfl (run_pick rfl rfl rfl) ?_
  simp only [nz1, nz2, nz3]
  refine lvw 29 (.bool true) rfl rfl (run_mv rfl rfl) ?_
  simp only [nz1, nz2, nz3]
  refine lvw 30 (.int .i64 ((hencode_m h).2)) rfl rfl (run_mv rfl rfl) ?_
  simp only [nz1, nz2, nz3]
  refine lvb 31 (¬ (hencode_m h).2 = 0) rfl rfl (z_neq ((hencode_m h).2) 0 rfl rfl rfl) (fun hs30 => ?_) (fun hs30 => ?_)
  · simp only [nz1, nz2, nz3]
    refine lvw 32 (.bool true) rfl rfl (run_mv rfl rfl) ?_
    simp only [nz1, nz2, nz3]
    refine lst_skip 33 rfl rfl ?_
    simp only [nz1, nz2, nz3]
    refine lst_skip 34 rfl rfl ?_
    simp only [nz1, nz2, nz3]
    refine lst_skip 35 rfl rfl ?_
    simp only [nz1, nz2, nz3]
    refine lvw 36 (.bool true) rfl rfl (run_pick rfl rfl rfl) ?_
    simp only [nz1, nz2, nz3]
    refine lvw 37 (.bool true) rfl rfl (run_pick rfl rfl rfl) ?_
    simp only [nz1, nz2, nz3]
    refine lvw 2 (.bool true) rfl rfl (run_as rfl rfl) ?_
    simp only [nz1, nz2, nz3]
    refine wpList_nil ?_
    refine then_n (hK22 _ _ ?_)
    refine wp_ret ?_
    have he31 : lblank_m h = true := (show lblank_m h = true from by unfold lblank_m; rw [if_pos hs25, if_pos hs28, if_pos hs29, if_pos hs30] <;> rfl)
    exact ⟨rfl, .bool true, res_t rfl rfl, ⟨by (rw [he31]; try rfl), hm27.below⟩⟩
  simp only [nz1, nz2, nz3]
  refine lvw 32 (.bool false) rfl rfl (run_mv rfl rfl) ?_
  simp only [nz1, nz2, nz3]
  refine lvw 33 (.string (tx ((hencode_m h).1))) rfl rfl (run_mv rfl rfl) ?_
  simp only [nz1, nz2, nz3]
  refine lst rfl (m_call hm27 34 (.bool ((blank_m ((hencode_m h).1)))) rfl (run_blank rfl rfl) (blank_any ((hencode_m h).1)  _  ) (fun w32 (hm33 : Mm none (fun _ => True) w w32 [.blk g4 #[.string (tx h.name), .int .i64 (h.mode), .int .i64 (h.uid), .int .i64 (h.gid), .int .i64 (h.size), .int .i64 (h.time), .int .u8 ((h.flag.toNat : Nat) : Int), .string (tx h.link), .string (tx h.pfx)] 23, .row v13 (List.replicate 512 (0 : UInt8)).length ((List.replicate 512 (0 : UInt8)).flatMap eB) 5 1, .blk g19 #[.string (tx (((hdecode_m (List.replicate 512 (0 : UInt8))).1).name)), .int .i64 (((hdecode_m (List.replicate 512 (0 : UInt8))).1).mode), .int .i64 (((hdecode_m (List.replicate 512 (0 : UInt8))).1).uid), .int .i64 (((hdecode_m (List.replicate 512 (0 : UInt8))).1).gid), .int .i64 (((hdecode_m (List.replicate 512 (0 : UInt8))).1).size), .int .i64 (((hdecode_m (List.replicate 512 (0 : UInt8))).1).time), .int .u8 (((((hdecode_m (List.replicate 512 (0 : UInt8))).1).flag).toNat : Nat) : Int), .string (tx (((hdecode_m (List.replicate 512 (0 : UInt8))).1).link)), .string (tx (((hdecode_m (List.replicate 512 (0 : UInt8))).1).pfx))] 23]) => ?_))
  simp only [nz1, nz2, nz3]
  refine lvw 35 (.bool (!(blank_m ((hencode_m h).1)))) rfl rfl (r_not (blank_m ((hencode_m h).1)) rfl rfl) ?_
  simp only [nz1, nz2, nz3]
  refine lvw 36 (.bool (!(blank_m ((hencode_m h).1)))) rfl rfl (run_pickf rfl rfl rfl) ?_
  simp only [nz1, nz2, nz3]
  refine lvw 37 (.bool (!(blank_m ((hencode_m h).1)))) rfl rfl (run_pick rfl rfl rfl) ?_
  simp only [nz1, nz2, nz3]
  refine lvw 2 (.bool (!(blank_m ((hencode_m h).1)))) rfl rfl (run_as rfl rfl) ?_
  simp only [nz1, nz2, nz3]
  refine wpList_nil ?_
  refine then_n (hK22 _ _ ?_)
  refine wp_ret ?_
  have he34 : lblank_m h = (!(blank_m ((hencode_m h).1))) := (show lblank_m h = (!(blank_m ((hencode_m h).1))) from by unfold lblank_m; rw [if_pos hs25, if_pos hs28, if_pos hs29, if_neg hs30] <;> rfl)
  exact ⟨rfl, .bool (!(blank_m ((hencode_m h).1))), res_t rfl rfl, ⟨by (rw [he34]; try rfl), hm33.below⟩⟩
theorem run_lblank {o : Oper} {a : Act} {w : World} {x0 : Operand} {v0 : Value} (ho : o.op = .call { callee := .value (.func 6), args := #[x0], argTypes := #[23] }) (h0 : a.eval x0 = v0) :
    (execOp a.eval o).run Tryd.prog w = .ok (.enter 6 #[v0]) w := by
  unfold execOp
  simp only [ho]
  have hf : a.eval (.func 6) = .func (.func 6) #[] #[] := rfl
  generalize a.eval = f at *
  go_simp
end Go.Proofs.YtglnifckngcpkaaDoor.Hd
