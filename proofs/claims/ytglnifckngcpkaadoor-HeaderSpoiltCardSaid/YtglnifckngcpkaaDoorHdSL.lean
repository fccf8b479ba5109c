/- Layer 9: HeaderSpoilt. -/
import Derived.Test.YtglnifckngcpkaaDoorHdF
import Derived.Test.YtglnifckngcpkaaDoorByt
namespace Go.Proofs.YtglnifckngcpkaaDoor.Hd
open Go.RowKit
open Go.Proofs.YtglnifckngcpkaaDoor.Sym Go.Proofs.YtglnifckngcpkaaDoor.Mem
open Go.Proofs.YtglnifckngcpkaaDoor.Sx hiding Mm m_alloc m_store m_put m_call m_callx m_make m_append r_string r_ixS
set_option linter.unusedVariables false
attribute [local irreducible] octal_m put_m get_m hsum_m fits_m fill_m rep_m ib_m hcut_m cut_m hencode_m hdecode_m blank_m
attribute [local irreducible] hawake_m
attribute [local irreducible] wpList Oper.wp

def lspoilt_m (h : Hdr) (pl : Int) (c : UInt8) : Bool :=
  if ¬ (hencode_m h).2 = 0 then
    hawake_m
  else
    if ¬ ((hencode_m h).1).length = 512 then
      hawake_m
    else
      if hawake_m = true then
        if c.toNat = by' ((hencode_m h).1) (((pl % 18446744073709551616).toNat) % 512) then
          ((decide ((hdecode_m (((hencode_m h).1).set ((pl % 18446744073709551616).toNat % 512) c)).2 = 0)) == true)
        else
          if (((pl % 18446744073709551616).toNat) % 512) = 154 then
            if c.toNat = 0 then
              ((decide ((hdecode_m (((hencode_m h).1).set ((pl % 18446744073709551616).toNat % 512) c)).2 = 0)) == true)
            else
              if c.toNat = 32 then
                ((decide ((hdecode_m (((hencode_m h).1).set ((pl % 18446744073709551616).toNat % 512) c)).2 = 0)) == true)
              else
                if (((pl % 18446744073709551616).toNat) % 512) = 155 then
                  if c.toNat = 0 then
                    ((decide ((hdecode_m (((hencode_m h).1).set ((pl % 18446744073709551616).toNat % 512) c)).2 = 0)) == true)
                  else
                    if c.toNat = 32 then
                      ((decide ((hdecode_m (((hencode_m h).1).set ((pl % 18446744073709551616).toNat % 512) c)).2 = 0)) == true)
                    else
                      if (((pl % 18446744073709551616).toNat) % 512) = 148 then
                        if by' ((hencode_m h).1) 148 = 48 then
                          ((decide ((hdecode_m (((hencode_m h).1).set ((pl % 18446744073709551616).toNat % 512) c)).2 = 0)) == (decide (c.toNat = 32)))
                        else
                          ((decide ((hdecode_m (((hencode_m h).1).set ((pl % 18446744073709551616).toNat % 512) c)).2 = 0)) == false)
                      else
                        ((decide ((hdecode_m (((hencode_m h).1).set ((pl % 18446744073709551616).toNat % 512) c)).2 = 0)) == false)
                else
                  if (((pl % 18446744073709551616).toNat) % 512) = 148 then
                    if by' ((hencode_m h).1) 148 = 48 then
                      ((decide ((hdecode_m (((hencode_m h).1).set ((pl % 18446744073709551616).toNat % 512) c)).2 = 0)) == (decide (c.toNat = 32)))
                    else
                      ((decide ((hdecode_m (((hencode_m h).1).set ((pl % 18446744073709551616).toNat % 512) c)).2 = 0)) == false)
                  else
                    ((decide ((hdecode_m (((hencode_m h).1).set ((pl % 18446744073709551616).toNat % 512) c)).2 = 0)) == false)
          else
            if (((pl % 18446744073709551616).toNat) % 512) = 155 then
              if c.toNat = 0 then
                ((decide ((hdecode_m (((hencode_m h).1).set ((pl % 18446744073709551616).toNat % 512) c)).2 = 0)) == true)
              else
                if c.toNat = 32 then
                  ((decide ((hdecode_m (((hencode_m h).1).set ((pl % 18446744073709551616).toNat % 512) c)).2 = 0)) == true)
                else
                  if (((pl % 18446744073709551616).toNat) % 512) = 148 then
                    if by' ((hencode_m h).1) 148 = 48 then
                      ((decide ((hdecode_m (((hencode_m h).1).set ((pl % 18446744073709551616).toNat % 512) c)).2 = 0)) == (decide (c.toNat = 32)))
                    else
                      ((decide ((hdecode_m (((hencode_m h).1).set ((pl % 18446744073709551616).toNat % 512) c)).2 = 0)) == false)
                  else
                    ((decide ((hdecode_m (((hencode_m h).1).set ((pl % 18446744073709551616).toNat % 512) c)).2 = 0)) == false)
            else
              if (((pl % 18446744073709551616).toNat) % 512) = 148 then
                if by' ((hencode_m h).1) 148 = 48 then
                  ((decide ((hdecode_m (((hencode_m h).1).set ((pl % 18446744073709551616).toNat % 512) c)).2 = 0)) == (decide (c.toNat = 32)))
                else
                  ((decide ((hdecode_m (((hencode_m h).1).set ((pl % 18446744073709551616).toNat % 512) c)).2 = 0)) == false)
              else
                ((decide ((hdecode_m (((hencode_m h).1).set ((pl % 18446744073709551616).toNat % 512) c)).2 = 0)) == false)
      else
        false

set_option maxHeartbeats 4000000 in
set_option maxRecDepth 100000 in
theorem lspoilt_any (h : Hdr) (pl : Int) (c : UInt8) (w : World)  (hT : Laid w) (hp0 : -9223372036854775808 ≤ h.mode) (hp1 : h.mode ≤ 9223372036854775807) (hp2 : -9223372036854775808 ≤ h.uid) (hp3 : h.uid ≤ 9223372036854775807) (hp4 : -9223372036854775808 ≤ h.gid) (hp5 : h.gid ≤ 9223372036854775807) (hp6 : -9223372036854775808 ≤ h.size) (hp7 : h.size ≤ 9223372036854775807) (hp8 : -9223372036854775808 ≤ h.time) (hp9 : h.time ≤ 9223372036854775807) : Calls Tryd.prog 5 #[.agg #[.string (tx h.name), .int .i64 (h.mode), .int .i64 (h.uid), .int .i64 (h.gid), .int .i64 (h.size), .int .i64 (h.time), .int .u8 ((h.flag.toNat : Nat) : Int), .string (tx h.link), .string (tx h.pfx)], .int .i64 (pl), .int .u8 ((c.toNat : Nat) : Int)] w (fun e w' => e = .returned (.bool ((lspoilt_m h pl c))) ∧ Below w.heap.size w w') := by
  go_enter Tryd.func5, Tryd.ntmps5
  have hm00 := Mm.nil none (fun _ => True) w
  have hm0 := hm00
  refine wp_seq_k (fun K1 hK1 => ?_)
  refine wp_region_lit ?_
  refine lst rfl (m_alloc (c := #[.string (tx h.name), .int .i64 (h.mode), .int .i64 (h.uid), .int .i64 (h.gid), .int .i64 (h.size), .int .i64 (h.time), .int .u8 ((h.flag.toNat : Nat) : Int), .string (tx h.link), .string (tx h.pfx)]) (T := 23) hm0 3 rfl (run_box rfl rfl) (fun g4 w2 (hm3 : Mm none (fun _ => True) w w2 [.blk g4 #[.string (tx h.name), .int .i64 (h.mode), .int .i64 (h.uid), .int .i64 (h.gid), .int .i64 (h.size), .int .i64 (h.time), .int .u8 ((h.flag.toNat : Nat) : Int), .string (tx h.link), .string (tx h.pfx)] 23]) => ?_))
  simp only [nz1, nz2, nz3]
  refine lvw 6 (.bool false) rfl rfl (run_as rfl rfl) ?_
  simp only [nz1, nz2, nz3]
  refine wpList_nil ?_
  refine then_n (hK1 _ _ ?_)
  refine wp_seq_k (fun K5 hK5 => ?_)
  refine wp_region_lit ?_
  refine lvw 14 (.agg #[.string (tx h.name), .int .i64 (h.mode), .int .i64 (h.uid), .int .i64 (h.gid), .int .i64 (h.size), .int .i64 (h.time), .int .u8 ((h.flag.toNat : Nat) : Int), .string (tx h.link), .string (tx h.pfx)]) rfl rfl (r_whole (hm3.at 0 rfl) Tryd.underlying23 rfl (by exact sz_23) rfl rfl) ?_
  simp only [nz1, nz2, nz3]
  refine lst rfl (m_call hm3 15 (.tuple #[.string (tx ((hencode_m h).1)), .int .i64 ((hencode_m h).2)]) rfl (run_hencode rfl rfl) (hencode_any h  _  (Laid.below hT hm3.below) (by first | omega | assumption | (simp; done) | (simp; omega) | (simp only [List.length_append, List.length_cons, List.length_nil]; omega) | (simp only [List.length_append, List.length_cons, List.length_nil] at *; omega) | decide) (by first | omega | assumption | (simp; done) | (simp; omega) | (simp only [List.length_append, List.length_cons, List.length_nil]; omega) | (simp only [List.length_append, List.length_cons, List.length_nil] at *; omega) | decide) (by first | omega | assumption | (simp; done) | (simp; omega) | (simp only [List.length_append, List.length_cons, List.length_nil]; omega) | (simp only [List.length_append, List.length_cons, List.length_nil] at *; omega) | decide) (by first | omega | assumption | (simp; done) | (simp; omega) | (simp only [List.length_append, List.length_cons, List.length_nil]; omega) | (simp only [List.length_append, List.length_cons, List.length_nil] at *; omega) | decide) (by first | omega | assumption | (simp; done) | (simp; omega) | (simp only [List.length_append, List.length_cons, List.length_nil]; omega) | (simp only [List.length_append, List.length_cons, List.length_nil] at *; omega) | decide) (by first | omega | assumption | (simp; done) | (simp; omega) | (simp only [List.length_append, List.length_cons, List.length_nil]; omega) | (simp only [List.length_append, List.length_cons, List.length_nil] at *; omega) | decide) (by first | omega | assumption | (simp; done) | (simp; omega) | (simp only [List.length_append, List.length_cons, List.length_nil]; omega) | (simp only [List.length_append, List.length_cons, List.length_nil] at *; omega) | decide) (by first | omega | assumption | (simp; done) | (simp; omega) | (simp only [List.length_append, List.length_cons, List.length_nil]; omega) | (simp only [List.length_append, List.length_cons, List.length_nil] at *; omega) | decide) (by first | omega | assumption | (simp; done) | (simp; omega) | (simp only [List.length_append, List.length_cons, List.length_nil]; omega) | (simp only [List.length_append, List.length_cons, List.length_nil] at *; omega) | decide) (by first | omega | assumption | (simp; done) | (simp; omega) | (simp only [List.length_append, List.length_cons, List.length_nil]; omega) | (simp only [List.length_append, List.length_cons, List.length_nil] at *; omega) | decide)) (fun w6 (hm7 : Mm none (fun _ => True) w w6 [.blk g4 #[.string (tx h.name), .int .i64 (h.mode), .int .i64 (h.uid), .int .i64 (h.gid), .int .i64 (h.size), .int .i64 (h.time), .int .u8 ((h.flag.toNat : Nat) : Int), .string (tx h.link), .string (tx h.pfx)] 23]) => ?_))
  have hf8 : (hencode_m h).1.length ≤ 512 := hencode_len h
  have hf9 : ¬ (hencode_m h).2 = 0 ∨ (h.name.length ≤ 100 ∧ h.link.length ≤ 100 ∧ h.pfx.length ≤ 155) := hencode_fit h
  simp only [nz1, nz2, nz3]
  refine lvw 13 (.tuple #[.string (tx ((hencode_m h).1)), .int .i64 ((hencode_m h).2)]) rfl rfl (run_mv rfl rfl) ?_
  simp only [nz1, nz2, nz3]
  refine lvw 16 (.string (tx ((hencode_m h).1))) rfl rfl (run_ex rfl rfl rfl) ?_
  simp only [nz1, nz2, nz3]
  refine lvw 17 (.int .i64 ((hencode_m h).2)) rfl rfl (run_ex rfl rfl rfl) ?_
  simp only [nz1, nz2, nz3]
  refine lvw 7 (.string (tx ((hencode_m h).1))) rfl rfl (run_as rfl rfl) ?_
  simp only [nz1, nz2, nz3]
  refine lvw 8 (.int .i64 ((hencode_m h).2)) rfl rfl (run_as rfl rfl) ?_
  simp only [nz1, nz2, nz3]
  refine wpList_nil ?_
  refine then_n (hK5 _ _ ?_)
  refine wp_seq_k (fun K10 hK10 => ?_)
  refine wp_seq_k (fun K11 hK11 => ?_)
  refine wp_region_lit ?_
  refine lvw 18 (.int .i64 ((hencode_m h).2)) rfl rfl (run_mv rfl rfl) ?_
  simp only [nz1, nz2, nz3]
  refine lvb 19 (¬ (hencode_m h).2 = 0) rfl rfl (z_neq ((hencode_m h).2) 0 rfl rfl rfl) (fun hs12 => ?_) (fun hs12 => ?_)
  · simp only [nz1, nz2, nz3]
    refine lvw 20 (.bool true) rfl rfl (run_mv rfl rfl) ?_
    simp only [nz1, nz2, nz3]
    refine lst_skip 21 rfl rfl ?_
    simp only [nz1, nz2, nz3]
    refine lst_skip 22 rfl rfl ?_
    simp only [nz1, nz2, nz3]
    refine lst_skip 23 rfl rfl ?_
    simp only [nz1, nz2, nz3]
    refine lvw 24 (.bool true) rfl rfl (run_pick rfl rfl rfl) ?_
    simp only [nz1, nz2, nz3]
    refine wpList_nil ?_
    refine then_n (hK11 _ _ ?_)
    refine cond_t rfl ?_
    refine wp_seq_k (fun K13 hK13 => ?_)
    refine wp_region_lit ?_
    refine lst rfl (m_call hm7 25 (.bool (hawake_m)) rfl (run_hawake rfl) (hawake_any   _  (Laid.below hT hm7.below) ) (fun w14 (hm15 : Mm none (fun _ => True) w w14 [.blk g4 #[.string (tx h.name), .int .i64 (h.mode), .int .i64 (h.uid), .int .i64 (h.gid), .int .i64 (h.size), .int .i64 (h.time), .int .u8 ((h.flag.toNat : Nat) : Int), .string (tx h.link), .string (tx h.pfx)] 23]) => ?_))
    simp only [nz1, nz2, nz3]
    refine lvw 6 (.bool (hawake_m)) rfl rfl (run_as rfl rfl) ?_
    simp only [nz1, nz2, nz3]
    refine wpList_nil ?_
    refine then_n (hK13 _ _ ?_)
    refine wp_ret ?_
    refine then_r ?_
    have he16 : lspoilt_m h pl c = hawake_m := (show lspoilt_m h pl c = hawake_m from by unfold lspoilt_m; rw [if_pos hs12] <;> rfl)
    exact ⟨rfl, .bool (hawake_m), res_t rfl rfl, ⟨by (rw [he16]; try rfl), hm15.below⟩⟩
  simp only [nz1, nz2, nz3]
  refine lvw 20 (.bool false) rfl rfl (run_mv rfl rfl) ?_
  simp only [nz1, nz2, nz3]
  refine lvw 21 (.string (tx ((hencode_m h).1))) rfl rfl (run_mv rfl rfl) ?_
  simp only [nz1, nz2, nz3]
  refine lvw 22 (.int .i64 ((((hencode_m h).1).length : Nat) : Int)) rfl rfl (t_len rfl Tryd.underlying9 rfl) ?_
  simp only [nz1, nz2, nz3]
  refine lvw 23 (.bool (decide (¬ ((hencode_m h).1).length = 512))) rfl rfl (r_neq (((hencode_m h).1).length) 512 rfl rfl rfl) ?_
  simp only [nz1, nz2, nz3]
  refine lvw 24 (.bool (decide (¬ ((hencode_m h).1).length = 512))) rfl rfl (run_pickf rfl rfl rfl) ?_
  simp only [nz1, nz2, nz3]
  refine wpList_nil ?_
  refine then_n (hK11 _ _ ?_)
  refine cond_d (¬ ((hencode_m h).1).length = 512) rfl (fun hc17 => ?_) (fun hc17 => ?_)
  · refine wp_seq_k (fun K18 hK18 => ?_)
    refine wp_region_lit ?_
    refine lst rfl (m_call hm7 25 (.bool (hawake_m)) rfl (run_hawake rfl) (hawake_any   _  (Laid.below hT hm7.below) ) (fun w19 (hm20 : Mm none (fun _ => True) w w19 [.blk g4 #[.string (tx h.name), .int .i64 (h.mode), .int .i64 (h.uid), .int .i64 (h.gid), .int .i64 (h.size), .int .i64 (h.time), .int .u8 ((h.flag.toNat : Nat) : Int), .string (tx h.link), .string (tx h.pfx)] 23]) => ?_))
    simp only [nz1, nz2, nz3]
    refine lvw 6 (.bool (hawake_m)) rfl rfl (run_as rfl rfl) ?_
    simp only [nz1, nz2, nz3]
    refine wpList_nil ?_
    refine then_n (hK18 _ _ ?_)
    refine wp_ret ?_
    refine then_r ?_
    have he21 : lspoilt_m h pl c = hawake_m := (show lspoilt_m h pl c = hawake_m from by unfold lspoilt_m; rw [if_neg hs12, if_pos hc17] <;> rfl)
    exact ⟨rfl, .bool (hawake_m), res_t rfl rfl, ⟨by (rw [he21]; try rfl), hm20.below⟩⟩
  refine wp_skip ?_
  refine then_n (hK10 _ _ ?_)
  refine wp_seq_k (fun K22 hK22 => ?_)
  refine wp_region_lit ?_
  refine lvw 26 (.int .i64 (pl)) rfl rfl (run_mv rfl rfl) ?_
  simp only [nz1, nz2, nz3]
  refine lvw 27 (.int .u64 (((pl % 18446744073709551616).toNat : Nat) : Int)) rfl rfl (z_conv (k' := .u64) pl (((pl % 18446744073709551616).toNat : Nat) : Int) some_3 Tryd.underlying33 (by rw [IntKind.wrap_u64]; omega) rfl rfl) ?_
  simp only [nz1, nz2, nz3]
  refine lvw 28 (.int .u64 (((((pl % 18446744073709551616).toNat) % 512) : Nat) : Int)) rfl rfl (r_rem ((pl % 18446744073709551616).toNat) 512 (show ((pl % 18446744073709551616).toNat) < 18446744073709551616 from by omega) (by decide) rfl rfl rfl) ?_
  simp only [nz1, nz2, nz3]
  refine lvw 29 (.int .i64 (((((pl % 18446744073709551616).toNat) % 512) : Nat) : Int)) rfl rfl (r_conv (k' := .i64) (((pl % 18446744073709551616).toNat) % 512) (((pl % 18446744073709551616).toNat) % 512) some_33 Tryd.underlying3 (wrap_nat (show (((pl % 18446744073709551616).toNat) % 512) < 9223372036854775808 from by omega)) rfl rfl) ?_
  simp only [nz1, nz2, nz3]
  refine lvw 9 (.int .i64 (((((pl % 18446744073709551616).toNat) % 512) : Nat) : Int)) rfl rfl (run_as rfl rfl) ?_
  simp only [nz1, nz2, nz3]
  refine wpList_nil ?_
  refine then_n (hK22 _ _ ?_)
  refine wp_seq_k (fun K23 hK23 => ?_)
  refine wp_region_lit ?_
  refine lvw 30 (.string (tx ((hencode_m h).1))) rfl rfl (run_mv rfl rfl) ?_
  simp only [nz1, nz2, nz3]
  refine lst rfl (m_bytes (tx ((hencode_m h).1)) hm7 31 rfl Tryd.underlying9 Tryd.underlying34 Tryd.underlying5 rfl rfl (fun g26 n w24 (hm25 : Mm none (fun _ => True) w w24 [.blk g4 #[.string (tx h.name), .int .i64 (h.mode), .int .i64 (h.uid), .int .i64 (h.gid), .int .i64 (h.size), .int .i64 (h.time), .int .u8 ((h.flag.toNat : Nat) : Int), .string (tx h.link), .string (tx h.pfx)] 23, .blk g26 (bcells (tx ((hencode_m h).1)) n) 5]) => ?_))
  rw [bb_start] at hm25
  have hl512 : ((hencode_m h).1).length = 512 := by omega
  rw [tx_size, hl512]
  simp only [nz1, nz2, nz3]
  refine lvw 10 (.slice (some ⟨g26, 0, none⟩) 512 (512 + n)) rfl rfl (run_as rfl rfl) ?_
  simp only [nz1, nz2, nz3]
  refine wpList_nil ?_
  refine then_n (hK23 _ _ ?_)
  refine wp_seq_k (fun K27 hK27 => ?_)
  refine wp_region_lit ?_
  refine lvw 32 (.slice (some ⟨g26, 0, none⟩) 512 (512 + n)) rfl rfl (run_mv rfl rfl) ?_
  simp only [nz1, nz2, nz3]
  refine lvw 33 (.int .i64 (((((pl % 18446744073709551616).toNat) % 512) : Nat) : Int)) rfl rfl (run_mv rfl rfl) ?_
  simp only [nz1, nz2, nz3]
  refine lvw 34 (.int .u8 ((c.toNat : Nat) : Int)) rfl rfl (run_mv rfl rfl) ?_
  simp only [nz1, nz2, nz3]
  refine lvw 35 (.pointer (some ⟨g26, (0 + ((pl % 18446744073709551616).toNat % 512) * 1), none⟩)) rfl rfl (r_ixS g26 0 ((pl % 18446744073709551616).toNat % 512) 512 (512 + n) 1 (by omega) Tryd.underlying34 sz_5 rfl rfl rfl) ?_
  simp only [nz1, nz2, nz3]
  refine lst rfl (m_store 1 5 _ _ (0 + ((pl % 18446744073709551616).toNat % 512) * 1) (.int .u8 ((c.toNat : Nat) : Int)) (old := bb ((hencode_m h).1) n) (new := bb (((hencode_m h).1).set ((pl % 18446744073709551616).toNat % 512) c) n) hm25 rfl rfl rfl rfl rfl (by exact sz_5) (by rw [bb_size, hl512]; show 0 + ((pl % 18446744073709551616).toNat % 512) * 1 + 1 ≤ _; omega) (one_all rfl) (by rw [show 0 + ((pl % 18446744073709551616).toNat % 512) * 1 = ((pl % 18446744073709551616).toNat % 512) by omega]; exact bb_set ((hencode_m h).1) n _ _ (by rw [hl512]; omega)) (fun w28 (hm29 : Mm none (fun _ => True) w w28 [.blk g4 #[.string (tx h.name), .int .i64 (h.mode), .int .i64 (h.uid), .int .i64 (h.gid), .int .i64 (h.size), .int .i64 (h.time), .int .u8 ((h.flag.toNat : Nat) : Int), .string (tx h.link), .string (tx h.pfx)] 23, .blk g26 (bb (((hencode_m h).1).set ((pl % 18446744073709551616).toNat % 512) c) n) 5]) => ?_))
  refine wpList_nil ?_
  refine then_n (hK27 _ _ ?_)
  refine wp_seq_k (fun K30 hK30 => ?_)
  refine wp_region_lit ?_
  refine lvw 37 (.slice (some ⟨g26, 0, none⟩) 512 (512 + n)) rfl rfl (run_mv rfl rfl) ?_
  simp only [nz1, nz2, nz3]
  refine lvw 38 (.string (tx (((hencode_m h).1).set ((pl % 18446744073709551616).toNat % 512) c))) rfl rfl (r_stringR (((hencode_m h).1).set ((pl % 18446744073709551616).toNat % 512) c) (by have h := Rd_bb (c := 512 + n) (hm29.at 1 rfl) (by rw [List.length_set]; omega); rw [List.length_set, hl512] at h; exact h) Tryd.underlying34 Tryd.underlying5 Tryd.underlying9 rfl rfl) ?_
  simp only [nz1, nz2, nz3]
  refine lst rfl (m_call hm29 39 (.tuple #[.agg #[.string (tx (((hdecode_m (((hencode_m h).1).set ((pl % 18446744073709551616).toNat % 512) c)).1).name)), .int .i64 (((hdecode_m (((hencode_m h).1).set ((pl % 18446744073709551616).toNat % 512) c)).1).mode), .int .i64 (((hdecode_m (((hencode_m h).1).set ((pl % 18446744073709551616).toNat % 512) c)).1).uid), .int .i64 (((hdecode_m (((hencode_m h).1).set ((pl % 18446744073709551616).toNat % 512) c)).1).gid), .int .i64 (((hdecode_m (((hencode_m h).1).set ((pl % 18446744073709551616).toNat % 512) c)).1).size), .int .i64 (((hdecode_m (((hencode_m h).1).set ((pl % 18446744073709551616).toNat % 512) c)).1).time), .int .u8 (((((hdecode_m (((hencode_m h).1).set ((pl % 18446744073709551616).toNat % 512) c)).1).flag).toNat : Nat) : Int), .string (tx (((hdecode_m (((hencode_m h).1).set ((pl % 18446744073709551616).toNat % 512) c)).1).link)), .string (tx (((hdecode_m (((hencode_m h).1).set ((pl % 18446744073709551616).toNat % 512) c)).1).pfx))], .int .i64 ((hdecode_m (((hencode_m h).1).set ((pl % 18446744073709551616).toNat % 512) c)).2)]) rfl (run_hdecode rfl rfl) (hdecode_any (((hencode_m h).1).set ((pl % 18446744073709551616).toNat % 512) c)  _  (Laid.below hT hm29.below) ) (fun w31 (hm32 : Mm none (fun _ => True) w w31 [.blk g4 #[.string (tx h.name), .int .i64 (h.mode), .int .i64 (h.uid), .int .i64 (h.gid), .int .i64 (h.size), .int .i64 (h.time), .int .u8 ((h.flag.toNat : Nat) : Int), .string (tx h.link), .string (tx h.pfx)] 23, .blk g26 (bb (((hencode_m h).1).set ((pl % 18446744073709551616).toNat % 512) c) n) 5]) => ?_))
  simp only [nz1, nz2, nz3]
  refine lvw 36 (.tuple #[.agg #[.string (tx (((hdecode_m (((hencode_m h).1).set ((pl % 18446744073709551616).toNat % 512) c)).1).name)), .int .i64 (((hdecode_m (((hencode_m h).1).set ((pl % 18446744073709551616).toNat % 512) c)).1).mode), .int .i64 (((hdecode_m (((hencode_m h).1).set ((pl % 18446744073709551616).toNat % 512) c)).1).uid), .int .i64 (((hdecode_m (((hencode_m h).1).set ((pl % 18446744073709551616).toNat % 512) c)).1).gid), .int .i64 (((hdecode_m (((hencode_m h).1).set ((pl % 18446744073709551616).toNat % 512) c)).1).size), .int .i64 (((hdecode_m (((hencode_m h).1).set ((pl % 18446744073709551616).toNat % 512) c)).1).time), .int .u8 (((((hdecode_m (((hencode_m h).1).set ((pl % 18446744073709551616).toNat % 512) c)).1).flag).toNat : Nat) : Int), .string (tx (((hdecode_m (((hencode_m h).1).set ((pl % 18446744073709551616).toNat % 512) c)).1).link)), .string (tx (((hdecode_m (((hencode_m h).1).set ((pl % 18446744073709551616).toNat % 512) c)).1).pfx))], .int .i64 ((hdecode_m (((hencode_m h).1).set ((pl % 18446744073709551616).toNat % 512) c)).2)]) rfl rfl (run_mv rfl rfl) ?_
  simp only [nz1, nz2, nz3]
  refine lvw 40 (.agg #[.string (tx (((hdecode_m (((hencode_m h).1).set ((pl % 18446744073709551616).toNat % 512) c)).1).name)), .int .i64 (((hdecode_m (((hencode_m h).1).set ((pl % 18446744073709551616).toNat % 512) c)).1).mode), .int .i64 (((hdecode_m (((hencode_m h).1).set ((pl % 18446744073709551616).toNat % 512) c)).1).uid), .int .i64 (((hdecode_m (((hencode_m h).1).set ((pl % 18446744073709551616).toNat % 512) c)).1).gid), .int .i64 (((hdecode_m (((hencode_m h).1).set ((pl % 18446744073709551616).toNat % 512) c)).1).size), .int .i64 (((hdecode_m (((hencode_m h).1).set ((pl % 18446744073709551616).toNat % 512) c)).1).time), .int .u8 (((((hdecode_m (((hencode_m h).1).set ((pl % 18446744073709551616).toNat % 512) c)).1).flag).toNat : Nat) : Int), .string (tx (((hdecode_m (((hencode_m h).1).set ((pl % 18446744073709551616).toNat % 512) c)).1).link)), .string (tx (((hdecode_m (((hencode_m h).1).set ((pl % 18446744073709551616).toNat % 512) c)).1).pfx))]) rfl rfl (run_ex rfl rfl rfl) ?_
  simp only [nz1, nz2, nz3]
  refine lvw 41 (.int .i64 ((hdecode_m (((hencode_m h).1).set ((pl % 18446744073709551616).toNat % 512) c)).2)) rfl rfl (run_ex rfl rfl rfl) ?_
  simp only [nz1, nz2, nz3]
  refine lst rfl (m_alloc (c := #[.string (tx ([])), .int .i64 0, .int .i64 0, .int .i64 0, .int .i64 0, .int .i64 0, .int .u8 0, .string (tx ([])), .string (tx ([]))]) (T := 23) hm32 11 rfl (by unfold execOp; go_simp; try rfl) (fun g35 w33 (hm34 : Mm none (fun _ => True) w w33 [.blk g4 #[.string (tx h.name), .int .i64 (h.mode), .int .i64 (h.uid), .int .i64 (h.gid), .int .i64 (h.size), .int .i64 (h.time), .int .u8 ((h.flag.toNat : Nat) : Int), .string (tx h.link), .string (tx h.pfx)] 23, .blk g26 (bb (((hencode_m h).1).set ((pl % 18446744073709551616).toNat % 512) c) n) 5, .blk g35 #[.string (tx ([])), .int .i64 0, .int .i64 0, .int .i64 0, .int .i64 0, .int .i64 0, .int .u8 0, .string (tx ([])), .string (tx ([]))] 23]) => ?_))
  simp only [nz1, nz2, nz3]
  refine lst rfl (m_store 2 23 _ _ 0 (.agg #[.string (tx (((hdecode_m (((hencode_m h).1).set ((pl % 18446744073709551616).toNat % 512) c)).1).name)), .int .i64 (((hdecode_m (((hencode_m h).1).set ((pl % 18446744073709551616).toNat % 512) c)).1).mode), .int .i64 (((hdecode_m (((hencode_m h).1).set ((pl % 18446744073709551616).toNat % 512) c)).1).uid), .int .i64 (((hdecode_m (((hencode_m h).1).set ((pl % 18446744073709551616).toNat % 512) c)).1).gid), .int .i64 (((hdecode_m (((hencode_m h).1).set ((pl % 18446744073709551616).toNat % 512) c)).1).size), .int .i64 (((hdecode_m (((hencode_m h).1).set ((pl % 18446744073709551616).toNat % 512) c)).1).time), .int .u8 (((((hdecode_m (((hencode_m h).1).set ((pl % 18446744073709551616).toNat % 512) c)).1).flag).toNat : Nat) : Int), .string (tx (((hdecode_m (((hencode_m h).1).set ((pl % 18446744073709551616).toNat % 512) c)).1).link)), .string (tx (((hdecode_m (((hencode_m h).1).set ((pl % 18446744073709551616).toNat % 512) c)).1).pfx))]) (old := #[.string (tx ([])), .int .i64 0, .int .i64 0, .int .i64 0, .int .i64 0, .int .i64 0, .int .u8 0, .string (tx ([])), .string (tx ([]))]) (new := #[.string (tx (((hdecode_m (((hencode_m h).1).set ((pl % 18446744073709551616).toNat % 512) c)).1).name)), .int .i64 (((hdecode_m (((hencode_m h).1).set ((pl % 18446744073709551616).toNat % 512) c)).1).mode), .int .i64 (((hdecode_m (((hencode_m h).1).set ((pl % 18446744073709551616).toNat % 512) c)).1).uid), .int .i64 (((hdecode_m (((hencode_m h).1).set ((pl % 18446744073709551616).toNat % 512) c)).1).gid), .int .i64 (((hdecode_m (((hencode_m h).1).set ((pl % 18446744073709551616).toNat % 512) c)).1).size), .int .i64 (((hdecode_m (((hencode_m h).1).set ((pl % 18446744073709551616).toNat % 512) c)).1).time), .int .u8 (((((hdecode_m (((hencode_m h).1).set ((pl % 18446744073709551616).toNat % 512) c)).1).flag).toNat : Nat) : Int), .string (tx (((hdecode_m (((hencode_m h).1).set ((pl % 18446744073709551616).toNat % 512) c)).1).link)), .string (tx (((hdecode_m (((hencode_m h).1).set ((pl % 18446744073709551616).toNat % 512) c)).1).pfx))]) hm34 rfl rfl rfl rfl rfl (by exact sz_23) (show 0 + 9 ≤ 9 from by decide) (by simp [Value.cells, Value.oneCell']) rfl (fun w36 (hm37 : Mm none (fun _ => True) w w36 [.blk g4 #[.string (tx h.name), .int .i64 (h.mode), .int .i64 (h.uid), .int .i64 (h.gid), .int .i64 (h.size), .int .i64 (h.time), .int .u8 ((h.flag.toNat : Nat) : Int), .string (tx h.link), .string (tx h.pfx)] 23, .blk g26 (bb (((hencode_m h).1).set ((pl % 18446744073709551616).toNat % 512) c) n) 5, .blk g35 #[.string (tx (((hdecode_m (((hencode_m h).1).set ((pl % 18446744073709551616).toNat % 512) c)).1).name)), .int .i64 (((hdecode_m (((hencode_m h).1).set ((pl % 18446744073709551616).toNat % 512) c)).1).mode), .int .i64 (((hdecode_m (((hencode_m h).1).set ((pl % 18446744073709551616).toNat % 512) c)).1).uid), .int .i64 (((hdecode_m (((hencode_m h).1).set ((pl % 18446744073709551616).toNat % 512) c)).1).gid), .int .i64 (((hdecode_m (((hencode_m h).1).set ((pl % 18446744073709551616).toNat % 512) c)).1).size), .int .i64 (((hdecode_m (((hencode_m h).1).set ((pl % 18446744073709551616).toNat % 512) c)).1).time), .int .u8 (((((hdecode_m (((hencode_m h).1).set ((pl % 18446744073709551616).toNat % 512) c)).1).flag).toNat : Nat) : Int), .string (tx (((hdecode_m (((hencode_m h).1).set ((pl % 18446744073709551616).toNat % 512) c)).1).link)), .string (tx (((hdecode_m (((hencode_m h).1).set ((pl % 18446744073709551616).toNat % 512) c)).1).pfx))] 23]) => ?_))
  refine lvw 12 (.int .i64 ((hdecode_m (((hencode_m h).1).set ((pl % 18446744073709551616).toNat % 512) c)).2)) rfl rfl (run_as rfl rfl) ?_
  simp only [nz1, nz2, nz3]
  refine wpList_nil ?_
  refine then_n (hK30 _ _ ?_)
  refine wp_seq_k (fun K38 hK38 => ?_)
  refine wp_region_lit ?_
  refine lst rfl (m_call hm37 42 (.bool (hawake_m)) rfl (run_hawake rfl) (hawake_any   _  (Laid.below hT hm37.below) ) (fun w39 (hm40 : Mm none (fun _ => True) w w39 [.blk g4 #[.string (tx h.name), .int .i64 (h.mode), .int .i64 (h.uid), .int .i64 (h.gid), .int .i64 (h.size), .int .i64 (h.time), .int .u8 ((h.flag.toNat : Nat) : Int), .string (tx h.link), .string (tx h.pfx)] 23, .blk g26 (bb (((hencode_m h).1).set ((pl % 18446744073709551616).toNat % 512) c) n) 5, .blk g35 #[.string (tx (((hdecode_m (((hencode_m h).1).set ((pl % 18446744073709551616).toNat % 512) c)).1).name)), .int .i64 (((hdecode_m (((hencode_m h).1).set ((pl % 18446744073709551616).toNat % 512) c)).1).mode), .int .i64 (((hdecode_m (((hencode_m h).1).set ((pl % 18446744073709551616).toNat % 512) c)).1).uid), .int .i64 (((hdecode_m (((hencode_m h).1).set ((pl % 18446744073709551616).toNat % 512) c)).1).gid), .int .i64 (((hdecode_m (((hencode_m h).1).set ((pl % 18446744073709551616).toNat % 512) c)).1).size), .int .i64 (((hdecode_m (((hencode_m h).1).set ((pl % 18446744073709551616).toNat % 512) c)).1).time), .int .u8 (((((hdecode_m (((hencode_m h).1).set ((pl % 18446744073709551616).toNat % 512) c)).1).flag).toNat : Nat) : Int), .string (tx (((hdecode_m (((hencode_m h).1).set ((pl % 18446744073709551616).toNat % 512) c)).1).link)), .string (tx (((hdecode_m (((hencode_m h).1).set ((pl % 18446744073709551616).toNat % 512) c)).1).pfx))] 23]) => ?_))
  simp only [nz1, nz2, nz3]
  by_cases hs41 : hawake_m = true
  rotate_left
  · rw [(Bool.eq_false_iff.2 hs41 : hawake_m = false)]
    refine lvw 43 (.bool false) rfl rfl (run_mv rfl rfl) ?_
    simp only [nz1, nz2, nz3]
    refine lst_skip 44 rfl rfl ?_
    simp only [nz1, nz2, nz3]
    refine lst_skip 45 rfl rfl ?_
    simp only [nz1, nz2, nz3]
    refine lst_skip 46 rfl rfl ?_
    simp only [nz1, nz2, nz3]
    refine lst_skip 47 rfl rfl ?_
    simp only [nz1, nz2, nz3]
    refine lst_skip 48 rfl rfl ?_
    simp only [nz1, nz2, nz3]
    refine lst_skip 49 rfl rfl ?_
    simp only [nz1, nz2, nz3]
    refine lst_skip 50 rfl rfl ?_
    simp only [nz1, nz2, nz3]
    refine lst_skip 51 rfl rfl ?_
    simp only [nz1, nz2, nz3]
    refine lst_skip 52 rfl rfl ?_
    simp only [nz1, nz2, nz3]
    refine lst_skip 53 rfl rfl ?_
    simp only [nz1, nz2, nz3]
    refine lst_skip 54 rfl rfl ?_
    simp only [nz1, nz2, nz3]
    refine lst_skip 55 rfl rfl ?_
    simp only [nz1, nz2, nz3]
    refine lst_skip 56 rfl rfl ?_
    simp only [nz1, nz2, nz3]
    refine lst_skip 57 rfl rfl ?_
    simp only [nz1, nz2, nz3]
    refine lst_skip 58 rfl rfl ?_
    simp only [nz1, nz2, nz3]
    refine lst_skip 59 rfl rfl ?_
    simp only [nz1, nz2, nz3]
    refine lst_skip 60 rfl rfl ?_
    simp only [nz1, nz2, nz3]
    refine lst_skip 61 rfl rfl ?_
    simp only [nz1, nz2, nz3]
    refine lst_skip 62 rfl rfl ?_
    simp only [nz1, nz2, nz3]
    refine lst_skip 63 rfl rfl ?_
    simp only [nz1, nz2, nz3]
    refine lst_skip 64 rfl rfl ?_
    simp only [nz1, nz2, nz3]
    refine lst_skip 65 rfl rfl ?_
    simp only [nz1, nz2, nz3]
    refine lst_skip 66 rfl rfl ?_
    simp only [nz1, nz2, nz3]
    refine lst_skip 67 rfl rfl ?_
    simp only [nz1, nz2, nz3]
    refine lst_skip 68 rfl rfl ?_
    simp only [nz1, nz2, nz3]
    refine lst_skip 69 rfl rfl ?_
    simp only [nz1, nz2, nz3]
    refine lst_skip 70 rfl rfl ?_
    simp only [nz1, nz2, nz3]
    refine lst_skip 71 rfl rfl ?_
    simp only [nz1, nz2, nz3]
    refine lst_skip 72 rfl rfl ?_
    simp only [nz1, nz2, nz3]
    refine lst_skip 73 rfl rfl ?_
    simp only [nz1, nz2, nz3]
    refine lst_skip 74 rfl rfl ?_
    simp only [nz1, nz2, nz3]
    refine lst_skip 75 rfl rfl ?_
    simp only [nz1, nz2, nz3]
    refine lst_skip 76 rfl rfl ?_
    simp only [nz1, nz2, nz3]
    refine lst_skip 77 rfl rfl ?_
    simp only [nz1, nz2, nz3]
    refine lst_skip 78 rfl rfl ?_
    simp only [nz1, nz2, nz3]
    refine lst_skip 79 rfl rfl ?_
    simp only [nz1, nz2, nz3]
    refine lst_skip 80 rfl rfl ?_
    simp only [nz1, nz2, nz3]
    refine lst_skip 81 rfl rfl ?_
    simp only [nz1, nz2, nz3]
    refine lst_skip 82 rfl rfl ?_
    simp only [nz1, nz2, nz3]
    refine lst_skip 83 rfl rfl ?_
    simp only [nz1, nz2, nz3]
    refine lst_skip 84 rfl rfl ?_
    simp only [nz1, nz2, nz3]
    refine lst_skip 85 rfl rfl ?_
    simp only [nz1, nz2, nz3]
    refine lst_skip 86 rfl rfl ?_
    simp only [nz1, nz2, nz3]
    refine lst_skip 87 rfl rfl ?_
    simp only [nz1, nz2, nz3]
    refine lst_skip 88 rfl rfl ?_
    simp only [nz1, nz2, nz3]
    refine lvw 89 (.bool false) rfl rfl (run_pickf rfl rfl rfl) ?_
    simp only [nz1, nz2, nz3]
    refine lvw 6 (.bool false) rfl rfl (run_as rfl rfl) ?_
    simp only [nz1, nz2, nz3]
    refine wpList_nil ?_
    refine then_n (hK38 _ _ ?_)
    refine wp_ret ?_
    have he79 : lspoilt_m h pl c = false := (show lspoilt_m h pl c = false from by unfold lspoilt_m; rw [if_neg hs12, if_neg hc17, if_neg hs41] <;> rfl)
    exact ⟨rfl, .bool false, res_t rfl rfl, ⟨by (rw [he79]; try rfl), hm40.below⟩⟩
  rw [(hs41 : hawake_m = true)]
  refine lvw 43 (.bool true) rfl rfl (run_mv rfl rfl) ?_
  simp only [nz1, nz2, nz3]
  refine lvw 44 (.int .i64 ((hdecode_m (((hencode_m h).1).set ((pl % 18446744073709551616).toNat % 512) c)).2)) rfl rfl (run_mv rfl rfl) ?_
  simp only [nz1, nz2, nz3]
  refine lvw 45 (.bool (decide ((hdecode_m (((hencode_m h).1).set ((pl % 18446744073709551616).toNat % 512) c)).2 = 0))) rfl rfl (z_eql ((hdecode_m (((hencode_m h).1).set ((pl % 18446744073709551616).toNat % 512) c)).2) 0 rfl rfl rfl) ?_
  simp only [nz1, nz2, nz3]
  refine lvw 46 (.int .u8 ((c.toNat : Nat) : Int)) rfl rfl (run_mv rfl rfl) ?_
  simp only [nz1, nz2, nz3]
  refine lvw 47 (.string (tx ((hencode_m h).1))) rfl rfl (run_mv rfl rfl) ?_
  simp only [nz1, nz2, nz3]
  refine lvw 48 (.int .i64 (((((pl % 18446744073709551616).toNat) % 512) : Nat) : Int)) rfl rfl (run_mv rfl rfl) ?_
  simp only [nz1, nz2, nz3]
  refine lvw 49 (.int .u8 ((by' ((hencode_m h).1) (((pl % 18446744073709551616).toNat) % 512) : Nat) : Int)) rfl rfl (t_char ((hencode_m h).1) (((pl % 18446744073709551616).toNat) % 512) (by omega) Tryd.underlying9 rfl rfl rfl) ?_
  simp only [nz1, nz2, nz3]
  refine lvb 50 (c.toNat = by' ((hencode_m h).1) (((pl % 18446744073709551616).toNat) % 512)) rfl rfl (r_eql c.toNat (by' ((hencode_m h).1) (((pl % 18446744073709551616).toNat) % 512)) rfl rfl rfl) (fun hs42 => ?_) (fun hs42 => ?_)
  · simp only [nz1, nz2, nz3]
    refine lvw 51 (.bool true) rfl rfl (run_mv rfl rfl) ?_
    simp only [nz1, nz2, nz3]
    refine lst_skip 52 rfl rfl ?_
    simp only [nz1, nz2, nz3]
    refine lst_skip 53 rfl rfl ?_
    simp only [nz1, nz2, nz3]
    refine lst_skip 54 rfl rfl ?_
    simp only [nz1, nz2, nz3]
    refine lst_skip 55 rfl rfl ?_
    simp only [nz1, nz2, nz3]
    refine lst_skip 56 rfl rfl ?_
    simp only [nz1, nz2, nz3]
    refine lst_skip 57 rfl rfl ?_
    simp only [nz1, nz2, nz3]
    refine lst_skip 58 rfl rfl ?_
    simp only [nz1, nz2, nz3]
    refine lst_skip 59 rfl rfl ?_
    simp only [nz1, nz2, nz3]
    refine lst_skip 60 rfl rfl ?_
    simp only [nz1, nz2, nz3]
    refine lst_skip 61 rfl rfl ?_
    simp only [nz1, nz2, nz3]
    refine lvw 62 (.bool true) rfl rfl (run_pick rfl rfl rfl) ?_
    simp only [nz1, nz2, nz3]
    refine lvw 63 (.bool true) rfl rfl (run_mv rfl rfl) ?_
    simp only [nz1, nz2, nz3]
    refine lst_skip 64 rfl rfl ?_
    simp only [nz1, nz2, nz3]
    refine lst_skip 65 rfl rfl ?_
    simp only [nz1, nz2, nz3]
    refine lst_skip 66 rfl rfl ?_
    simp only [nz1, nz2, nz3]
    refine lst_skip 67 rfl rfl ?_
    simp only [nz1, nz2, nz3]
    refine lst_skip 68 rfl rfl ?_
    simp only [nz1, nz2, nz3]
    refine lst_skip 69 rfl rfl ?_
    simp only [nz1, nz2, nz3]
    refine lst_skip 70 rfl rfl ?_
    simp only [nz1, nz2, nz3]
    refine lst_skip 71 rfl rfl ?_
    simp only [nz1, nz2, nz3]
    refine lst_skip 72 rfl rfl ?_
    simp only [nz1, nz2, nz3]
    refine lst_skip 73 rfl rfl ?_
    simp only [nz1, nz2, nz3]
    refine lvw 74 (.bool true) rfl rfl (run_pick rfl rfl rfl) ?_
    simp only [nz1, nz2, nz3]
    refine lvw 75 (.bool true) rfl rfl (run_mv rfl rfl) ?_
    simp only [nz1, nz2, nz3]
    refine lst_skip 76 rfl rfl ?_
    simp only [nz1, nz2, nz3]
    refine lst_skip 77 rfl rfl ?_
    simp only [nz1, nz2, nz3]
    refine lst_skip 78 rfl rfl ?_
    simp only [nz1, nz2, nz3]
    refine lst_skip 79 rfl rfl ?_
    simp only [nz1, nz2, nz3]
    refine lst_skip 80 rfl rfl ?_
    simp only [nz1, nz2, nz3]
    refine lst_skip 81 rfl rfl ?_
    simp only [nz1, nz2, nz3]
    refine lst_skip 82 rfl rfl ?_
    simp only [nz1, nz2, nz3]
    refine lst_skip 83 rfl rfl ?_
    simp only [nz1, nz2, nz3]
    refine lst_skip 84 rfl rfl ?_
    simp only [nz1, nz2, nz3]
    refine lst_skip 85 rfl rfl ?_
    simp only [nz1, nz2, nz3]
    refine lst_skip 86 rfl rfl ?_
    simp only [nz1, nz2, nz3]
    refine lvw 87 (.bool true) rfl rfl (run_pick rfl rfl rfl) ?_
    simp only [nz1, nz2, nz3]
    refine lvw 88 (.bool ((decide ((hdecode_m (((hencode_m h).1).set ((pl % 18446744073709551616).toNat % 512) c)).2 = 0)) == true)) rfl rfl (b_eql (decide ((hdecode_m (((hencode_m h).1).set ((pl % 18446744073709551616).toNat % 512) c)).2 = 0)) true rfl rfl rfl) ?_
    simp only [nz1, nz2, nz3]
    refine lvw 89 (.bool ((decide ((hdecode_m (((hencode_m h).1).set ((pl % 18446744073709551616).toNat % 512) c)).2 = 0)) == true)) rfl rfl (run_pick rfl rfl rfl) ?_
    simp only [nz1, nz2, nz3]
    refine lvw 6 (.bool ((decide ((hdecode_m (((hencode_m h).1).set ((pl % 18446744073709551616).toNat % 512) c)).2 = 0)) == true)) rfl rfl (run_as rfl rfl) ?_
    simp only [nz1, nz2, nz3]
    refine wpList_nil ?_
    refine then_n (hK38 _ _ ?_)
    refine wp_ret ?_
    have he43 : lspoilt_m h pl c = ((decide ((hdecode_m (((hencode_m h).1).set ((pl % 18446744073709551616).toNat % 512) c)).2 = 0)) == true) := (show lspoilt_m h pl c = ((decide ((hdecode_m (((hencode_m h).1).set ((pl % 18446744073709551616).toNat % 512) c)).2 = 0)) == true) from by unfold lspoilt_m; rw [if_neg hs12, if_neg hc17, if_pos hs41, if_pos hs42] <;> rfl)
    exact ⟨rfl, .bool ((decide ((hdecode_m (((hencode_m h).1).set ((pl % 18446744073709551616).toNat % 512) c)).2 = 0)) == true), res_t rfl rfl, ⟨by (rw [he43]; try rfl), hm40.below⟩⟩
  simp only [nz1, nz2, nz3]
  refine lvw 51 (.bool false) rfl rfl (run_mv rfl rfl) ?_
  simp only [nz1, nz2, nz3]
  refine lvw 52 (.int .i64 (((((pl % 18446744073709551616).toNat) % 512) : Nat) : Int)) rfl rfl (run_mv rfl rfl) ?_
  simp only [nz1, nz2, nz3]
  refine lvb 53 ((((pl % 18446744073709551616).toNat) % 512) = 154) rfl rfl (r_eql (((pl % 18446744073709551616).toNat) % 512) 154 rfl rfl rfl) (fun hs44 => ?_) (fun hs44 => ?_)
  rotate_left
  · simp only [nz1, nz2, nz3]
    refine lvw 54 (.bool false) rfl rfl (run_mv rfl rfl) ?_
    simp only [nz1, nz2, nz3]
    refine lst_skip 55 rfl rfl ?_
    simp only [nz1, nz2, nz3]
    refine lst_skip 56 rfl rfl ?_
    simp only [nz1, nz2, nz3]
    refine lst_skip 57 rfl rfl ?_
    simp only [nz1, nz2, nz3]
    refine lst_skip 58 rfl rfl ?_
    simp only [nz1, nz2, nz3]
    refine lst_skip 59 rfl rfl ?_
    simp only [nz1, nz2, nz3]
    refine lst_skip 60 rfl rfl ?_
    simp only [nz1, nz2, nz3]
    refine lvw 61 (.bool false) rfl rfl (run_pickf rfl rfl rfl) ?_
    simp only [nz1, nz2, nz3]
    refine lvw 62 (.bool false) rfl rfl (run_pickf rfl rfl rfl) ?_
    simp only [nz1, nz2, nz3]
    refine lvw 63 (.bool false) rfl rfl (run_mv rfl rfl) ?_
    simp only [nz1, nz2, nz3]
    refine lvw 64 (.int .i64 (((((pl % 18446744073709551616).toNat) % 512) : Nat) : Int)) rfl rfl (run_mv rfl rfl) ?_
    simp only [nz1, nz2, nz3]
    refine lvb 65 ((((pl % 18446744073709551616).toNat) % 512) = 155) rfl rfl (r_eql (((pl % 18446744073709551616).toNat) % 512) 155 rfl rfl rfl) (fun hs64 => ?_) (fun hs64 => ?_)
    rotate_left
    · simp only [nz1, nz2, nz3]
      refine lvw 66 (.bool false) rfl rfl (run_mv rfl rfl) ?_
      simp only [nz1, nz2, nz3]
      refine lst_skip 67 rfl rfl ?_
      simp only [nz1, nz2, nz3]
      refine lst_skip 68 rfl rfl ?_
      simp only [nz1, nz2, nz3]
      refine lst_skip 69 rfl rfl ?_
      simp only [nz1, nz2, nz3]
      refine lst_skip 70 rfl rfl ?_
      simp only [nz1, nz2, nz3]
      refine lst_skip 71 rfl rfl ?_
      simp only [nz1, nz2, nz3]
      refine lst_skip 72 rfl rfl ?_
      simp only [nz1, nz2, nz3]
      refine lvw 73 (.bool false) rfl rfl (run_pickf rfl rfl rfl) ?_
      simp only [nz1, nz2, nz3]
      refine lvw 74 (.bool false) rfl rfl (run_pickf rfl rfl rfl) ?_
      simp only [nz1, nz2, nz3]
      refine lvw 75 (.bool false) rfl rfl (run_mv rfl rfl) ?_
      simp only [nz1, nz2, nz3]
      refine lvw 76 (.int .i64 (((((pl % 18446744073709551616).toNat) % 512) : Nat) : Int)) rfl rfl (run_mv rfl rfl) ?_
      simp only [nz1, nz2, nz3]
      refine lvb 77 ((((pl % 18446744073709551616).toNat) % 512) = 148) rfl rfl (r_eql (((pl % 18446744073709551616).toNat) % 512) 148 rfl rfl rfl) (fun hs74 => ?_) (fun hs74 => ?_)
      rotate_left
      · simp only [nz1, nz2, nz3]
        refine lvw 78 (.bool false) rfl rfl (run_mv rfl rfl) ?_
        simp only [nz1, nz2, nz3]
        refine lst_skip 79 rfl rfl ?_
        simp only [nz1, nz2, nz3]
        refine lst_skip 80 rfl rfl ?_
        simp only [nz1, nz2, nz3]
        refine lst_skip 81 rfl rfl ?_
        simp only [nz1, nz2, nz3]
        refine lvw 82 (.bool false) rfl rfl (run_pickf rfl rfl rfl) ?_
        simp only [nz1, nz2, nz3]
        refine lvw 83 (.bool false) rfl rfl (run_mv rfl rfl) ?_
        simp only [nz1, nz2, nz3]
        refine lst_skip 84 rfl rfl ?_
        simp only [nz1, nz2, nz3]
        refine lst_skip 85 rfl rfl ?_
        simp only [nz1, nz2, nz3]
        refine lvw 86 (.bool false) rfl rfl (run_pickf rfl rfl rfl) ?_
        simp only [nz1, nz2, nz3]
        refine lvw 87 (.bool false) rfl rfl (run_pickf rfl rfl rfl) ?_
        simp only [nz1, nz2, nz3]
        refine lvw 88 (.bool ((decide ((hdecode_m (((hencode_m h).1).set ((pl % 18446744073709551616).toNat % 512) c)).2 = 0)) == false)) rfl rfl (b_eql (decide ((hdecode_m (((hencode_m h).1).set ((pl % 18446744073709551616).toNat % 512) c)).2 = 0)) false rfl rfl rfl) ?_
        simp only [nz1, nz2, nz3]
        refine lvw 89 (.bool ((decide ((hdecode_m (((hencode_m h).1).set ((pl % 18446744073709551616).toNat % 512) c)).2 = 0)) == false)) rfl rfl (run_pick rfl rfl rfl) ?_
        simp only [nz1, nz2, nz3]
        refine lvw 6 (.bool ((decide ((hdecode_m (((hencode_m h).1).set ((pl % 18446744073709551616).toNat % 512) c)).2 = 0)) == false)) rfl rfl (run_as rfl rfl) ?_
        simp only [nz1, nz2, nz3]
        refine wpList_nil ?_
        refine then_n (hK38 _ _ ?_)
        refine wp_ret ?_
        have he78 : lspoilt_m h pl c = ((decide ((hdecode_m (((hencode_m h).1).set ((pl % 18446744073709551616).toNat % 512) c)).2 = 0)) == false) := (show lspoilt_m h pl c = ((decide ((hdecode_m (((hencode_m h).1).set ((pl % 18446744073709551616).toNat % 512) c)).2 = 0)) == false) from by unfold lspoilt_m; rw [if_neg hs12, if_neg hc17, if_pos hs41, if_neg hs42, if_neg hs44, if_neg hs64, if_neg hs74] <;> rfl)
        exact ⟨rfl, .bool ((decide ((hdecode_m (((hencode_m h).1).set ((pl % 18446744073709551616).toNat % 512) c)).2 = 0)) == false), res_t rfl rfl, ⟨by (rw [he78]; try rfl), hm40.below⟩⟩
      simp only [nz1, nz2, nz3]
      refine lvw 78 (.bool true) rfl rfl (run_mv rfl rfl) ?_
      simp only [nz1, nz2, nz3]
      refine lvw 79 (.string (tx ((hencode_m h).1))) rfl rfl (run_mv rfl rfl) ?_
      simp only [nz1, nz2, nz3]
      refine lvw 80 (.int .u8 ((by' ((hencode_m h).1) 148 : Nat) : Int)) rfl rfl (t_char ((hencode_m h).1) 148 (by omega) Tryd.underlying9 rfl rfl rfl) ?_
      simp only [nz1, nz2, nz3]
      refine lvb 81 (by' ((hencode_m h).1) 148 = 48) rfl rfl (r_eql (by' ((hencode_m h).1) 148) 48 rfl rfl rfl) (fun hs75 => ?_) (fun hs75 => ?_)
      · simp only [nz1, nz2, nz3]
        refine lvw 82 (.bool true) rfl rfl (run_pick rfl rfl rfl) ?_
        simp only [nz1, nz2, nz3]
        refine lvw 83 (.bool true) rfl rfl (run_mv rfl rfl) ?_
        simp only [nz1, nz2, nz3]
        refine lvw 84 (.int .u8 ((c.toNat : Nat) : Int)) rfl rfl (run_mv rfl rfl) ?_
        simp only [nz1, nz2, nz3]
        refine lvw 85 (.bool (decide (c.toNat = 32))) rfl rfl (r_eql c.toNat 32 rfl rfl rfl) ?_
        simp only [nz1, nz2, nz3]
        refine lvw 86 (.bool (decide (c.toNat = 32))) rfl rfl (run_pick rfl rfl rfl) ?_
        simp only [nz1, nz2, nz3]
        refine lvw 87 (.bool (decide (c.toNat = 32))) rfl rfl (run_pickf rfl rfl rfl) ?_
        simp only [nz1, nz2, nz3]
        refine lvw 88 (.bool ((decide ((hdecode_m (((hencode_m h).1).set ((pl % 18446744073709551616).toNat % 512) c)).2 = 0)) == (decide (c.toNat = 32)))) rfl rfl (b_eql (decide ((hdecode_m (((hencode_m h).1).set ((pl % 18446744073709551616).toNat % 512) c)).2 = 0)) (decide (c.toNat = 32)) rfl rfl rfl) ?_
        simp only [nz1, nz2, nz3]
        refine lvw 89 (.bool ((decide ((hdecode_m (((hencode_m h).1).set ((pl % 18446744073709551616).toNat % 512) c)).2 = 0)) == (decide (c.toNat = 32)))) rfl rfl (run_pick rfl rfl rfl) ?_
        simp only [nz1, nz2, nz3]
        refine lvw 6 (.bool ((decide ((hdecode_m (((hencode_m h).1).set ((pl % 18446744073709551616).toNat % 512) c)).2 = 0)) == (decide (c.toNat = 32)))) rfl rfl (run_as rfl rfl) ?_
        simp only [nz1, nz2, nz3]
        refine wpList_nil ?_
        refine then_n (hK38 _ _ ?_)
        refine wp_ret ?_
        have he76 : lspoilt_m h pl c = ((decide ((hdecode_m (((hencode_m h).1).set ((pl % 18446744073709551616).toNat % 512) c)).2 = 0)) == (decide (c.toNat = 32))) := (show lspoilt_m h pl c = ((decide ((hdecode_m (((hencode_m h).1).set ((pl % 18446744073709551616).toNat % 512) c)).2 = 0)) == (decide (c.toNat = 32))) from by unfold lspoilt_m; rw [if_neg hs12, if_neg hc17, if_pos hs41, if_neg hs42, if_neg hs44, if_neg hs64, if_pos hs74, if_pos hs75] <;> rfl)
        exact ⟨rfl, .bool ((decide ((hdecode_m (((hencode_m h).1).set ((pl % 18446744073709551616).toNat % 512) c)).2 = 0)) == (decide (c.toNat = 32))), res_t rfl rfl, ⟨by (rw [he76]; try rfl), hm40.below⟩⟩
      simp only [nz1, nz2, nz3]
      refine lvw 82 (.bool false) rfl rfl (run_pick rfl rfl rfl) ?_
      simp only [nz1, nz2, nz3]
      refine lvw 83 (.bool false) rfl rfl (run_mv rfl rfl) ?_
      simp only [nz1, nz2, nz3]
      refine lst_skip 84 rfl rfl ?_
      simp only [nz1, nz2, nz3]
      refine lst_skip 85 rfl rfl ?_
      simp only [nz1, nz2, nz3]
      refine lvw 86 (.bool false) rfl rfl (run_pickf rfl rfl rfl) ?_
      simp only [nz1, nz2, nz3]
      refine lvw 87 (.bool false) rfl rfl (run_pickf rfl rfl rfl) ?_
      simp only [nz1, nz2, nz3]
      refine lvw 88 (.bool ((decide ((hdecode_m (((hencode_m h).1).set ((pl % 18446744073709551616).toNat % 512) c)).2 = 0)) == false)) rfl rfl (b_eql (decide ((hdecode_m (((hencode_m h).1).set ((pl % 18446744073709551616).toNat % 512) c)).2 = 0)) false rfl rfl rfl) ?_
      simp only [nz1, nz2, nz3]
      refine lvw 89 (.bool ((decide ((hdecode_m (((hencode_m h).1).set ((pl % 18446744073709551616).toNat % 512) c)).2 = 0)) == false)) rfl rfl (run_pick rfl rfl rfl) ?_
      simp only [nz1, nz2, nz3]
      refine lvw 6 (.bool ((decide ((hdecode_m (((hencode_m h).1).set ((pl % 18446744073709551616).toNat % 512) c)).2 = 0)) == false)) rfl rfl (run_as rfl rfl) ?_
      simp only [nz1, nz2, nz3]
      refine wpList_nil ?_
      refine then_n (hK38 _ _ ?_)
      refine wp_ret ?_
      have he77 : lspoilt_m h pl c = ((decide ((hdecode_m (((hencode_m h).1).set ((pl % 18446744073709551616).toNat % 512) c)).2 = 0)) == false) := (show lspoilt_m h pl c = ((decide ((hdecode_m (((hencode_m h).1).set ((pl % 18446744073709551616).toNat % 512) c)).2 = 0)) == false) from by unfold lspoilt_m; rw [if_neg hs12, if_neg hc17, if_pos hs41, if_neg hs42, if_neg hs44, if_neg hs64, if_pos hs74, if_neg hs75] <;> rfl)
      exact ⟨rfl, .bool ((decide ((hdecode_m (((hencode_m h).1).set ((pl % 18446744073709551616).toNat % 512) c)).2 = 0)) == false), res_t rfl rfl, ⟨by (rw [he77]; try rfl), hm40.below⟩⟩
    simp only [nz1, nz2, nz3]
    refine lvw 66 (.bool true) rfl rfl (run_mv rfl rfl) ?_
    simp only [nz1, nz2, nz3]
    refine lvw 67 (.int .u8 ((c.toNat : Nat) : Int)) rfl rfl (run_mv rfl rfl) ?_
    simp only [nz1, nz2, nz3]
    refine lvb 68 (c.toNat = 0) rfl rfl (r_eql c.toNat 0 rfl rfl rfl) (fun hs65 => ?_) (fun hs65 => ?_)
    · simp only [nz1, nz2, nz3]
      refine lvw 69 (.bool true) rfl rfl (run_mv rfl rfl) ?_
      simp only [nz1, nz2, nz3]
      refine lst_skip 70 rfl rfl ?_
      simp only [nz1, nz2, nz3]
      refine lst_skip 71 rfl rfl ?_
      simp only [nz1, nz2, nz3]
      refine lvw 72 (.bool true) rfl rfl (run_pick rfl rfl rfl) ?_
      simp only [nz1, nz2, nz3]
      refine lvw 73 (.bool true) rfl rfl (run_pick rfl rfl rfl) ?_
      simp only [nz1, nz2, nz3]
      refine lvw 74 (.bool true) rfl rfl (run_pickf rfl rfl rfl) ?_
      simp only [nz1, nz2, nz3]
      refine lvw 75 (.bool true) rfl rfl (run_mv rfl rfl) ?_
      simp only [nz1, nz2, nz3]
      refine lst_skip 76 rfl rfl ?_
      simp only [nz1, nz2, nz3]
      refine lst_skip 77 rfl rfl ?_
      simp only [nz1, nz2, nz3]
      refine lst_skip 78 rfl rfl ?_
      simp only [nz1, nz2, nz3]
      refine lst_skip 79 rfl rfl ?_
      simp only [nz1, nz2, nz3]
      refine lst_skip 80 rfl rfl ?_
      simp only [nz1, nz2, nz3]
      refine lst_skip 81 rfl rfl ?_
      simp only [nz1, nz2, nz3]
      refine lst_skip 82 rfl rfl ?_
      simp only [nz1, nz2, nz3]
      refine lst_skip 83 rfl rfl ?_
      simp only [nz1, nz2, nz3]
      refine lst_skip 84 rfl rfl ?_
      simp only [nz1, nz2, nz3]
      refine lst_skip 85 rfl rfl ?_
      simp only [nz1, nz2, nz3]
      refine lst_skip 86 rfl rfl ?_
      simp only [nz1, nz2, nz3]
      refine lvw 87 (.bool true) rfl rfl (run_pick rfl rfl rfl) ?_
      simp only [nz1, nz2, nz3]
      refine lvw 88 (.bool ((decide ((hdecode_m (((hencode_m h).1).set ((pl % 18446744073709551616).toNat % 512) c)).2 = 0)) == true)) rfl rfl (b_eql (decide ((hdecode_m (((hencode_m h).1).set ((pl % 18446744073709551616).toNat % 512) c)).2 = 0)) true rfl rfl rfl) ?_
      simp only [nz1, nz2, nz3]
      refine lvw 89 (.bool ((decide ((hdecode_m (((hencode_m h).1).set ((pl % 18446744073709551616).toNat % 512) c)).2 = 0)) == true)) rfl rfl (run_pick rfl rfl rfl) ?_
      simp only [nz1, nz2, nz3]
      refine lvw 6 (.bool ((decide ((hdecode_m (((hencode_m h).1).set ((pl % 18446744073709551616).toNat % 512) c)).2 = 0)) == true)) rfl rfl (run_as rfl rfl) ?_
      simp only [nz1, nz2, nz3]
      refine wpList_nil ?_
      refine then_n (hK38 _ _ ?_)
      refine wp_ret ?_
      have he66 : lspoilt_m h pl c = ((decide ((hdecode_m (((hencode_m h).1).set ((pl % 18446744073709551616).toNat % 512) c)).2 = 0)) == true) := (show lspoilt_m h pl c = ((decide ((hdecode_m (((hencode_m h).1).set ((pl % 18446744073709551616).toNat % 512) c)).2 = 0)) == true) from by unfold lspoilt_m; rw [if_neg hs12, if_neg hc17, if_pos hs41, if_neg hs42, if_neg hs44, if_pos hs64, if_pos hs65] <;> rfl)
      exact ⟨rfl, .bool ((decide ((hdecode_m (((hencode_m h).1).set ((pl % 18446744073709551616).toNat % 512) c)).2 = 0)) == true), res_t rfl rfl, ⟨by (rw [he66]; try rfl), hm40.below⟩⟩
    simp only [nz1, nz2, nz3]
    refine lvw 69 (.bool false) rfl rfl (run_mv rfl rfl) ?_
    simp only [nz1, nz2, nz3]
    refine lvw 70 (.int .u8 ((c.toNat : Nat) : Int)) rfl rfl (run_mv rfl rfl) ?_
    simp only [nz1, nz2, nz3]
    refine lvb 71 (c.toNat = 32) rfl rfl (r_eql c.toNat 32 rfl rfl rfl) (fun hs67 => ?_) (fun hs67 => ?_)
    · simp only [nz1, nz2, nz3]
      refine lvw 72 (.bool true) rfl rfl (run_pickf rfl rfl rfl) ?_
      simp only [nz1, nz2, nz3]
      refine lvw 73 (.bool true) rfl rfl (run_pick rfl rfl rfl) ?_
      simp only [nz1, nz2, nz3]
      refine lvw 74 (.bool true) rfl rfl (run_pickf rfl rfl rfl) ?_
      simp only [nz1, nz2, nz3]
      refine lvw 75 (.bool true) rfl rfl (run_mv rfl rfl) ?_
      simp only [nz1, nz2, nz3]
      refine lst_skip 76 rfl rfl ?_
      simp only [nz1, nz2, nz3]
      refine lst_skip 77 rfl rfl ?_
      simp only [nz1, nz2, nz3]
      refine lst_skip 78 rfl rfl ?_
      simp only [nz1, nz2, nz3]
      refine lst_skip 79 rfl rfl ?_
      simp only [nz1, nz2, nz3]
      refine lst_skip 80 rfl rfl ?_
      simp only [nz1, nz2, nz3]
      refine lst_skip 81 rfl rfl ?_
      simp only [nz1, nz2, nz3]
      refine lst_skip 82 rfl rfl ?_
      simp only [nz1, nz2, nz3]
      refine lst_skip 83 rfl rfl ?_
      simp only [nz1, nz2, nz3]
      refine lst_skip 84 rfl rfl ?_
      simp only [nz1, nz2, nz3]
      refine lst_skip 85 rfl rfl ?_
      simp only [nz1, nz2, nz3]
      refine lst_skip 86 rfl rfl ?_
      simp only [nz1, nz2, nz3]
      refine lvw 87 (.bool true) rfl rfl (run_pick rfl rfl rfl) ?_
      simp only [nz1, nz2, nz3]
      refine lvw 88 (.bool ((decide ((hdecode_m (((hencode_m h).1).set ((pl % 18446744073709551616).toNat % 512) c)).2 = 0)) == true)) rfl rfl (b_eql (decide ((hdecode_m (((hencode_m h).1).set ((pl % 18446744073709551616).toNat % 512) c)).2 = 0)) true rfl rfl rfl) ?_
      simp only [nz1, nz2, nz3]
      refine lvw 89 (.bool ((decide ((hdecode_m (((hencode_m h).1).set ((pl % 18446744073709551616).toNat % 512) c)).2 = 0)) == true)) rfl rfl (run_pick rfl rfl rfl) ?_
      simp only [nz1, nz2, nz3]
      refine lvw 6 (.bool ((decide ((hdecode_m (((hencode_m h).1).set ((pl % 18446744073709551616).toNat % 512) c)).2 = 0)) == true)) rfl rfl (run_as rfl rfl) ?_
      simp only [nz1, nz2, nz3]
      refine wpList_nil ?_
      refine then_n (hK38 _ _ ?_)
      refine wp_ret ?_
      have he68 : lspoilt_m h pl c = ((decide ((hdecode_m (((hencode_m h).1).set ((pl % 18446744073709551616).toNat % 512) c)).2 = 0)) == true) := (show lspoilt_m h pl c = ((decide ((hdecode_m (((hencode_m h).1).set ((pl % 18446744073709551616).toNat % 512) c)).2 = 0)) == true) from by unfold lspoilt_m; rw [if_neg hs12, if_neg hc17, if_pos hs41, if_neg hs42, if_neg hs44, if_pos hs64, if_neg hs65, if_pos hs67] <;> rfl)
      exact ⟨rfl, .bool ((decide ((hdecode_m (((hencode_m h).1).set ((pl % 18446744073709551616).toNat % 512) c)).2 = 0)) == true), res_t rfl rfl, ⟨by (rw [he68]; try rfl), hm40.below⟩⟩
    simp only [nz1, nz2, nz3]
    refine lvw 72 (.bool false) rfl rfl (run_pickf rfl rfl rfl) ?_
    simp only [nz1, nz2, nz3]
    refine lvw 73 (.bool false) rfl rfl (run_pick rfl rfl rfl) ?_
    simp only [nz1, nz2, nz3]
    refine lvw 74 (.bool false) rfl rfl (run_pickf rfl rfl rfl) ?_
    simp only [nz1, nz2, nz3]
    refine lvw 75 (.bool false) rfl rfl (run_mv rfl rfl) ?_
    simp only [nz1, nz2, nz3]
    refine lvw 76 (.int .i64 (((((pl % 18446744073709551616).toNat) % 512) : Nat) : Int)) rfl rfl (run_mv rfl rfl) ?_
    simp only [nz1, nz2, nz3]
    refine lvb 77 ((((pl % 18446744073709551616).toNat) % 512) = 148) rfl rfl (r_eql (((pl % 18446744073709551616).toNat) % 512) 148 rfl rfl rfl) (fun hs69 => ?_) (fun hs69 => ?_)
    rotate_left
    · simp only [nz1, nz2, nz3]
      refine lvw 78 (.bool false) rfl rfl (run_mv rfl rfl) ?_
      simp only [nz1, nz2, nz3]
      refine lst_skip 79 rfl rfl ?_
      simp only [nz1, nz2, nz3]
      refine lst_skip 80 rfl rfl ?_
      simp only [nz1, nz2, nz3]
      refine lst_skip 81 rfl rfl ?_
      simp only [nz1, nz2, nz3]
      refine lvw 82 (.bool false) rfl rfl (run_pickf rfl rfl rfl) ?_
      simp only [nz1, nz2, nz3]
      refine lvw 83 (.bool false) rfl rfl (run_mv rfl rfl) ?_
      simp only [nz1, nz2, nz3]
      refine lst_skip 84 rfl rfl ?_
      simp only [nz1, nz2, nz3]
      refine lst_skip 85 rfl rfl ?_
      simp only [nz1, nz2, nz3]
      refine lvw 86 (.bool false) rfl rfl (run_pickf rfl rfl rfl) ?_
      simp only [nz1, nz2, nz3]
      refine lvw 87 (.bool false) rfl rfl (run_pickf rfl rfl rfl) ?_
      simp only [nz1, nz2, nz3]
      refine lvw 88 (.bool ((decide ((hdecode_m (((hencode_m h).1).set ((pl % 18446744073709551616).toNat % 512) c)).2 = 0)) == false)) rfl rfl (b_eql (decide ((hdecode_m (((hencode_m h).1).set ((pl % 18446744073709551616).toNat % 512) c)).2 = 0)) false rfl rfl rfl) ?_
      simp only [nz1, nz2, nz3]
      refine lvw 89 (.bool ((decide ((hdecode_m (((hencode_m h).1).set ((pl % 18446744073709551616).toNat % 512) c)).2 = 0)) == false)) rfl rfl (run_pick rfl rfl rfl) ?_
      simp only [nz1, nz2, nz3]
      refine lvw 6 (.bool ((decide ((hdecode_m (((hencode_m h).1).set ((pl % 18446744073709551616).toNat % 512) c)).2 = 0)) == false)) rfl rfl (run_as rfl rfl) ?_
      simp only [nz1, nz2, nz3]
      refine wpList_nil ?_
      refine then_n (hK38 _ _ ?_)
      refine wp_ret ?_
      have he73 : lspoilt_m h pl c = ((decide ((hdecode_m (((hencode_m h).1).set ((pl % 18446744073709551616).toNat % 512) c)).2 = 0)) == false) := (show lspoilt_m h pl c = ((decide ((hdecode_m (((hencode_m h).1).set ((pl % 18446744073709551616).toNat % 512) c)).2 = 0)) == false) from by unfold lspoilt_m; rw [if_neg hs12, if_neg hc17, if_pos hs41, if_neg hs42, if_neg hs44, if_pos hs64, if_neg hs65, if_neg hs67, if_neg hs69] <;> rfl)
      exact ⟨rfl, .bool ((decide ((hdecode_m (((hencode_m h).1).set ((pl % 18446744073709551616).toNat % 512) c)).2 = 0)) == false), res_t rfl rfl, ⟨by (rw [he73]; try rfl), hm40.below⟩⟩
    simp only [nz1, nz2, nz3]
    refine lvw 78 (.bool true) rfl rfl (run_mv rfl rfl) ?_
    simp only [nz1, nz2, nz3]
    refine lvw 79 (.string (tx ((hencode_m h).1))) rfl rfl (run_mv rfl rfl) ?_
    simp only [nz1, nz2, nz3]
    refine lvw 80 (.int .u8 ((by' ((hencode_m h).1) 148 : Nat) : Int)) rfl rfl (t_char ((hencode_m h).1) 148 (by omega) Tryd.underlying9 rfl rfl rfl) ?_
    simp only [nz1, nz2, nz3]
    refine lvb 81 (by' ((hencode_m h).1) 148 = 48) rfl rfl (r_eql (by' ((hencode_m h).1) 148) 48 rfl rfl rfl) (fun hs70 => ?_) (fun hs70 => ?_)
    · simp only [nz1, nz2, nz3]
      refine lvw 82 (.bool true) rfl rfl (run_pick rfl rfl rfl) ?_
      simp only [nz1, nz2, nz3]
      refine lvw 83 (.bool true) rfl rfl (run_mv rfl rfl) ?_
      simp only [nz1, nz2, nz3]
      refine lvw 84 (.int .u8 ((c.toNat : Nat) : Int)) rfl rfl (run_mv rfl rfl) ?_
      simp only [nz1, nz2, nz3]
      refine lvw 85 (.bool (decide (c.toNat = 32))) rfl rfl (r_eql c.toNat 32 rfl rfl rfl) ?_
      simp only [nz1, nz2, nz3]
      refine lvw 86 (.bool (decide (c.toNat = 32))) rfl rfl (run_pick rfl rfl rfl) ?_
      simp only [nz1, nz2, nz3]
      refine lvw 87 (.bool (decide (c.toNat = 32))) rfl rfl (run_pickf rfl rfl rfl) ?_
      simp only [nz1, nz2, nz3]
      refine lvw 88 (.bool ((decide ((hdecode_m (((hencode_m h).1).set ((pl % 18446744073709551616).toNat % 512) c)).2 = 0)) == (decide (c.toNat = 32)))) rfl rfl (b_eql (decide ((hdecode_m (((hencode_m h).1).set ((pl % 18446744073709551616).toNat % 512) c)).2 = 0)) (decide (c.toNat = 32)) rfl rfl rfl) ?_
      simp only [nz1, nz2, nz3]
      refine lvw 89 (.bool ((decide ((hdecode_m (((hencode_m h).1).set ((pl % 18446744073709551616).toNat % 512) c)).2 = 0)) == (decide (c.toNat = 32)))) rfl rfl (run_pick rfl rfl rfl) ?_
      simp only [nz1, nz2, nz3]
      refine lvw 6 (.bool ((decide ((hdecode_m (((hencode_m h).1).set ((pl % 18446744073709551616).toNat % 512) c)).2 = 0)) == (decide (c.toNat = 32)))) rfl rfl (run_as rfl rfl) ?_
      simp only [nz1, nz2, nz3]
      refine wpList_nil ?_
      refine then_n (hK38 _ _ ?_)
      refine wp_ret ?_
      have he71 : lspoilt_m h pl c = ((decide ((hdecode_m (((hencode_m h).1).set ((pl % 18446744073709551616).toNat % 512) c)).2 = 0)) == (decide (c.toNat = 32))) := (show lspoilt_m h pl c = ((decide ((hdecode_m (((hencode_m h).1).set ((pl % 18446744073709551616).toNat % 512) c)).2 = 0)) == (decide (c.toNat = 32))) from by unfold lspoilt_m; rw [if_neg hs12, if_neg hc17, if_pos hs41, if_neg hs42, if_neg hs44, if_pos hs64, if_neg hs65, if_neg hs67, if_pos hs69, if_pos hs70] <;> rfl)
      exact ⟨rfl, .bool ((decide ((hdecode_m (((hencode_m h).1).set ((pl % 18446744073709551616).toNat % 512) c)).2 = 0)) == (decide (c.toNat = 32))), res_t rfl rfl, ⟨by (rw [he71]; try rfl), hm40.below⟩⟩
    simp only [nz1, nz2, nz3]
    refine lvw 82 (.bool false) rfl rfl (run_pick rfl rfl rfl) ?_
    simp only [nz1, nz2, nz3]
    refine lvw 83 (.bool false) rfl rfl (run_mv rfl rfl) ?_
    simp only [nz1, nz2, nz3]
    refine lst_skip 84 rfl rfl ?_
    simp only [nz1, nz2, nz3]
    refine lst_skip 85 rfl rfl ?_
    simp only [nz1, nz2, nz3]
    refine lvw 86 (.bool false) rfl rfl (run_pickf rfl rfl rfl) ?_
    simp only [nz1, nz2, nz3]
    refine lvw 87 (.bool false) rfl rfl (run_pickf rfl rfl rfl) ?_
    simp only [nz1, nz2, nz3]
    refine lvw 88 (.bool ((decide ((hdecode_m (((hencode_m h).1).set ((pl % 18446744073709551616).toNat % 512) c)).2 = 0)) == false)) rfl rfl (b_eql (decide ((hdecode_m (((hencode_m h).1).set ((pl % 18446744073709551616).toNat % 512) c)).2 = 0)) false rfl rfl rfl) ?_
    simp only [nz1, nz2, nz3]
    refine lvw 89 (.bool ((decide ((hdecode_m (((hencode_m h).1).set ((pl % 18446744073709551616).toNat % 512) c)).2 = 0)) == false)) rfl rfl (run_pick rfl rfl rfl) ?_
    simp only [nz1, nz2, nz3]
    refine lvw 6 (.bool ((decide ((hdecode_m (((hencode_m h).1).set ((pl % 18446744073709551616).toNat % 512) c)).2 = 0)) == false)) rfl rfl (run_as rfl rfl) ?_
    simp only [nz1, nz2, nz3]
    refine wpList_nil ?_
    refine then_n (hK38 _ _ ?_)
    refine wp_ret ?_
    have he72 : lspoilt_m h pl c = ((decide ((hdecode_m (((hencode_m h).1).set ((pl % 18446744073709551616).toNat % 512) c)).2 = 0)) == false) := (show lspoilt_m h pl c = ((decide ((hdecode_m (((hencode_m h).1).set ((pl % 18446744073709551616).toNat % 512) c)).2 = 0)) == false) from by unfold lspoilt_m; rw [if_neg hs12, if_neg hc17, if_pos hs41, if_neg hs42, if_neg hs44, if_pos hs64, if_neg hs65, if_neg hs67, if_pos hs69, if_neg hs70] <;> rfl)
    exact ⟨rfl, .bool ((decide ((hdecode_m (((hencode_m h).1).set ((pl % 18446744073709551616).toNat % 512) c)).2 = 0)) == false), res_t rfl rfl, ⟨by (rw [he72]; try rfl), hm40.below⟩⟩
  simp only [nz1, nz2, nz3]
  refine lvw 54 (.bool true) rfl rfl (run_mv rfl rfl) ?_
  simp only [nz1, nz2, nz3]
  refine lvw 55 (.int .u8 ((c.toNat : Nat) : Int)) rfl rfl (run_mv rfl rfl) ?_
  simp only [nz1, nz2, nz3]
  refine lvb 56 (c.toNat = 0) rfl rfl (r_eql c.toNat 0 rfl rfl rfl) (fun hs45 => ?_) (fun hs45 => ?_)
  · simp only [nz1, nz2, nz3]
    refine lvw 57 (.bool true) rfl rfl (run_mv rfl rfl) ?_
    simp only [nz1, nz2, nz3]
    refine lst_skip 58 rfl rfl ?_
    simp only [nz1, nz2, nz3]
    refine lst_skip 59 rfl rfl ?_
    simp only [nz1, nz2, nz3]
    refine lvw 60 (.bool true) rfl rfl (run_pick rfl rfl rfl) ?_
    simp only [nz1, nz2, nz3]
    refine lvw 61 (.bool true) rfl rfl (run_pick rfl rfl rfl) ?_
    simp only [nz1, nz2, nz3]
    refine lvw 62 (.bool true) rfl rfl (run_pickf rfl rfl rfl) ?_
    simp only [nz1, nz2, nz3]
    refine lvw 63 (.bool true) rfl rfl (run_mv rfl rfl) ?_
    simp only [nz1, nz2, nz3]
    refine lst_skip 64 rfl rfl ?_
    simp only [nz1, nz2, nz3]
    refine lst_skip 65 rfl rfl ?_
    simp only [nz1, nz2, nz3]
    refine lst_skip 66 rfl rfl ?_
    simp only [nz1, nz2, nz3]
    refine lst_skip 67 rfl rfl ?_
    simp only [nz1, nz2, nz3]
    refine lst_skip 68 rfl rfl ?_
    simp only [nz1, nz2, nz3]
    refine lst_skip 69 rfl rfl ?_
    simp only [nz1, nz2, nz3]
    refine lst_skip 70 rfl rfl ?_
    simp only [nz1, nz2, nz3]
    refine lst_skip 71 rfl rfl ?_
    simp only [nz1, nz2, nz3]
    refine lst_skip 72 rfl rfl ?_
    simp only [nz1, nz2, nz3]
    refine lst_skip 73 rfl rfl ?_
    simp only [nz1, nz2, nz3]
    refine lvw 74 (.bool true) rfl rfl (run_pick rfl rfl rfl) ?_
    simp only [nz1, nz2, nz3]
    refine lvw 75 (.bool true) rfl rfl (run_mv rfl rfl) ?_
    simp only [nz1, nz2, nz3]
    refine lst_skip 76 rfl rfl ?_
    simp only [nz1, nz2, nz3]
    refine lst_skip 77 rfl rfl ?_
    simp only [nz1, nz2, nz3]
    refine lst_skip 78 rfl rfl ?_
    simp only [nz1, nz2, nz3]
    refine lst_skip 79 rfl rfl ?_
    simp only [nz1, nz2, nz3]
    refine lst_skip 80 rfl rfl ?_
    simp only [nz1, nz2, nz3]
    refine lst_skip 81 rfl rfl ?_
    simp only [nz1, nz2, nz3]
    refine lst_skip 82 rfl rfl ?_
    simp only [nz1, nz2, nz3]
    refine lst_skip 83 rfl rfl ?_
    simp only [nz1, nz2, nz3]
    refine lst_skip 84 rfl rfl ?_
    simp only [nz1, nz2, nz3]
    refine lst_skip 85 rfl rfl ?_
    simp only [nz1, nz2, nz3]
    refine lst_skip 86 rfl rfl ?_
    simp only [nz1, nz2, nz3]
    refine lvw 87 (.bool true) rfl rfl (run_pick rfl rfl rfl) ?_
    simp only [nz1, nz2, nz3]
    refine lvw 88 (.bool ((decide ((hdecode_m (((hencode_m h).1).set ((pl % 18446744073709551616).toNat % 512) c)).2 = 0)) == true)) rfl rfl (b_eql (decide ((hdecode_m (((hencode_m h).1).set ((pl % 18446744073709551616).toNat % 512) c)).2 = 0)) true rfl rfl rfl) ?_
    simp only [nz1, nz2, nz3]
    refine lvw 89 (.bool ((decide ((hdecode_m (((hencode_m h).1).set ((pl % 18446744073709551616).toNat % 512) c)).2 = 0)) == true)) rfl rfl (run_pick rfl rfl rfl) ?_
    simp only [nz1, nz2, nz3]
    refine lvw 6 (.bool ((decide ((hdecode_m (((hencode_m h).1).set ((pl % 18446744073709551616).toNat % 512) c)).2 = 0)) == true)) rfl rfl (run_as rfl rfl) ?_
    simp only [nz1, nz2, nz3]
    refine wpList_nil ?_
    refine then_n (hK38 _ _ ?_)
    refine wp_ret ?_
    have he46 : lspoilt_m h pl c = ((decide ((hdecode_m (((hencode_m h).1).set ((pl % 18446744073709551616).toNat % 512) c)).2 = 0)) == true) := (show lspoilt_m h pl c = ((decide ((hdecode_m (((hencode_m h).1).set ((pl % 18446744073709551616).toNat % 512) c)).2 = 0)) == true) from by unfold lspoilt_m; rw [if_neg hs12, if_neg hc17, if_pos hs41, if_neg hs42, if_pos hs44, if_pos hs45] <;> rfl)
    exact ⟨rfl, .bool ((decide ((hdecode_m (((hencode_m h).1).set ((pl % 18446744073709551616).toNat % 512) c)).2 = 0)) == true), res_t rfl rfl, ⟨by (rw [he46]; try rfl), hm40.below⟩⟩
  simp only [nz1, nz2, nz3]
  refine lvw 57 (.bool false) rfl rfl (run_mv rfl rfl) ?_
  simp only [nz1, nz2, nz3]
  refine lvw 58 (.int .u8 ((c.toNat : Nat) : Int)) rfl rfl (run_mv rfl rfl) ?_
  simp only [nz1, nz2, nz3]
  refine lvb 59 (c.toNat = 32) rfl rfl (r_eql c.toNat 32 rfl rfl rfl) (fun hs47 => ?_) (fun hs47 => ?_)
  · simp only [nz1, nz2, nz3]
    refine lvw 60 (.bool true) rfl rfl (run_pickf rfl rfl rfl) ?_
    simp only [nz1, nz2, nz3]
    refine lvw 61 (.bool true) rfl rfl (run_pick rfl rfl rfl) ?_
    simp only [nz1, nz2, nz3]
    refine lvw 62 (.bool true) rfl rfl (run_pickf rfl rfl rfl) ?_
    simp only [nz1, nz2, nz3]
    refine lvw 63 (.bool true) rfl rfl (run_mv rfl rfl) ?_
    simp only [nz1, nz2, nz3]
    refine lst_skip 64 rfl rfl ?_
    simp only [nz1, nz2, nz3]
    refine lst_skip 65 rfl rfl ?_
    simp only [nz1, nz2, nz3]
    refine lst_skip 66 rfl rfl ?_
    simp only [nz1, nz2, nz3]
    refine lst_skip 67 rfl rfl ?_
    simp only [nz1, nz2, nz3]
    refine lst_skip 68 rfl rfl ?_
    simp only [nz1, nz2, nz3]
    refine lst_skip 69 rfl rfl ?_
    simp only [nz1, nz2, nz3]
    refine lst_skip 70 rfl rfl ?_
    simp only [nz1, nz2, nz3]
    refine lst_skip 71 rfl rfl ?_
    simp only [nz1, nz2, nz3]
    refine lst_skip 72 rfl rfl ?_
    simp only [nz1, nz2, nz3]
    refine lst_skip 73 rfl rfl ?_
    simp only [nz1, nz2, nz3]
    refine lvw 74 (.bool true) rfl rfl (run_pick rfl rfl rfl) ?_
    simp only [nz1, nz2, nz3]
    refine lvw 75 (.bool true) rfl rfl (run_mv rfl rfl) ?_
    simp only [nz1, nz2, nz3]
    refine lst_skip 76 rfl rfl ?_
    simp only [nz1, nz2, nz3]
    refine lst_skip 77 rfl rfl ?_
    simp only [nz1, nz2, nz3]
    refine lst_skip 78 rfl rfl ?_
    simp only [nz1, nz2, nz3]
    refine lst_skip 79 rfl rfl ?_
    simp only [nz1, nz2, nz3]
    refine lst_skip 80 rfl rfl ?_
    simp only [nz1, nz2, nz3]
    refine lst_skip 81 rfl rfl ?_
    simp only [nz1, nz2, nz3]
    refine lst_skip 82 rfl rfl ?_
    simp only [nz1, nz2, nz3]
    refine lst_skip 83 rfl rfl ?_
    simp only [nz1, nz2, nz3]
    refine lst_skip 84 rfl rfl ?_
    simp only [nz1, nz2, nz3]
    refine lst_skip 85 rfl rfl ?_
    simp only [nz1, nz2, nz3]
    refine lst_skip 86 rfl rfl ?_
    simp only [nz1, nz2, nz3]
    refine lvw 87 (.bool true) rfl rfl (run_pick rfl rfl rfl) ?_
    simp only [nz1, nz2, nz3]
    refine lvw 88 (.bool ((decide ((hdecode_m (((hencode_m h).1).set ((pl % 18446744073709551616).toNat % 512) c)).2 = 0)) == true)) rfl rfl (b_eql (decide ((hdecode_m (((hencode_m h).1).set ((pl % 18446744073709551616).toNat % 512) c)).2 = 0)) true rfl rfl rfl) ?_
    simp only [nz1, nz2, nz3]
    refine lvw 89 (.bool ((decide ((hdecode_m (((hencode_m h).1).set ((pl % 18446744073709551616).toNat % 512) c)).2 = 0)) == true)) rfl rfl (run_pick rfl rfl rfl) ?_
    simp only [nz1, nz2, nz3]
    refine lvw 6 (.bool ((decide ((hdecode_m (((hencode_m h).1).set ((pl % 18446744073709551616).toNat % 512) c)).2 = 0)) == true)) rfl rfl (run_as rfl rfl) ?_
    simp only [nz1, nz2, nz3]
    refine wpList_nil ?_
    refine then_n (hK38 _ _ ?_)
    refine wp_ret ?_
    have he48 : lspoilt_m h pl c = ((decide ((hdecode_m (((hencode_m h).1).set ((pl % 18446744073709551616).toNat % 512) c)).2 = 0)) == true) := (show lspoilt_m h pl c = ((decide ((hdecode_m (((hencode_m h).1).set ((pl % 18446744073709551616).toNat % 512) c)).2 = 0)) == true) from by unfold lspoilt_m; rw [if_neg hs12, if_neg hc17, if_pos hs41, if_neg hs42, if_pos hs44, if_neg hs45, if_pos hs47] <;> rfl)
    exact ⟨rfl, .bool ((decide ((hdecode_m (((hencode_m h).1).set ((pl % 18446744073709551616).toNat % 512) c)).2 = 0)) == true), res_t rfl rfl, ⟨by (rw [he48]; try rfl), hm40.below⟩⟩
  simp only [nz1, nz2, nz3]
  refine lvw 60 (.bool false) rfl rfl (run_pickf rfl rfl rfl) ?_
  simp only [nz1, nz2, nz3]
  refine lvw 61 (.bool false) rfl rfl (run_pick rfl rfl rfl) ?_
  simp only [nz1, nz2, nz3]
  refine lvw 62 (.bool false) rfl rfl (run_pickf rfl rfl rfl) ?_
  simp only [nz1, nz2, nz3]
  refine lvw 63 (.bool false) rfl rfl (run_mv rfl rfl) ?_
  simp only [nz1, nz2, nz3]
  refine lvw 64 (.int .i64 (((((pl % 18446744073709551616).toNat) % 512) : Nat) : Int)) rfl rfl (run_mv rfl rfl) ?_
  simp only [nz1, nz2, nz3]
  refine lvb 65 ((((pl % 18446744073709551616).toNat) % 512) = 155) rfl rfl (r_eql (((pl % 18446744073709551616).toNat) % 512) 155 rfl rfl rfl) (fun hs49 => ?_) (fun hs49 => ?_)
  rotate_left
  · simp only [nz1, nz2, nz3]
    refine lvw 66 (.bool false) rfl rfl (run_mv rfl rfl) ?_
    simp only [nz1, nz2, nz3]
    refine lst_skip 67 rfl rfl ?_
    simp only [nz1, nz2, nz3]
    refine lst_skip 68 rfl rfl ?_
    simp only [nz1, nz2, nz3]
    refine lst_skip 69 rfl rfl ?_
    simp only [nz1, nz2, nz3]
    refine lst_skip 70 rfl rfl ?_
    simp only [nz1, nz2, nz3]
    refine lst_skip 71 rfl rfl ?_
    simp only [nz1, nz2, nz3]
    refine lst_skip 72 rfl rfl ?_
    simp only [nz1, nz2, nz3]
    refine lvw 73 (.bool false) rfl rfl (run_pickf rfl rfl rfl) ?_
    simp only [nz1, nz2, nz3]
    refine lvw 74 (.bool false) rfl rfl (run_pickf rfl rfl rfl) ?_
    simp only [nz1, nz2, nz3]
    refine lvw 75 (.bool false) rfl rfl (run_mv rfl rfl) ?_
    simp only [nz1, nz2, nz3]
    refine lvw 76 (.int .i64 (((((pl % 18446744073709551616).toNat) % 512) : Nat) : Int)) rfl rfl (run_mv rfl rfl) ?_
    simp only [nz1, nz2, nz3]
    refine lvb 77 ((((pl % 18446744073709551616).toNat) % 512) = 148) rfl rfl (r_eql (((pl % 18446744073709551616).toNat) % 512) 148 rfl rfl rfl) (fun hs59 => ?_) (fun hs59 => ?_)
    rotate_left
    · simp only [nz1, nz2, nz3]
      refine lvw 78 (.bool false) rfl rfl (run_mv rfl rfl) ?_
      simp only [nz1, nz2, nz3]
      refine lst_skip 79 rfl rfl ?_
      simp only [nz1, nz2, nz3]
      refine lst_skip 80 rfl rfl ?_
      simp only [nz1, nz2, nz3]
      refine lst_skip 81 rfl rfl ?_
      simp only [nz1, nz2, nz3]
      refine lvw 82 (.bool false) rfl rfl (run_pickf rfl rfl rfl) ?_
      simp only [nz1, nz2, nz3]
      refine lvw 83 (.bool false) rfl rfl (run_mv rfl rfl) ?_
      simp only [nz1, nz2, nz3]
      refine lst_skip 84 rfl rfl ?_
      simp only [nz1, nz2, nz3]
      refine lst_skip 85 rfl rfl ?_
      simp only [nz1, nz2, nz3]
      refine lvw 86 (.bool false) rfl rfl (run_pickf rfl rfl rfl) ?_
      simp only [nz1, nz2, nz3]
      refine lvw 87 (.bool false) rfl rfl (run_pickf rfl rfl rfl) ?_
      simp only [nz1, nz2, nz3]
      refine lvw 88 (.bool ((decide ((hdecode_m (((hencode_m h).1).set ((pl % 18446744073709551616).toNat % 512) c)).2 = 0)) == false)) rfl rfl (b_eql (decide ((hdecode_m (((hencode_m h).1).set ((pl % 18446744073709551616).toNat % 512) c)).2 = 0)) false rfl rfl rfl) ?_
      simp only [nz1, nz2, nz3]
      refine lvw 89 (.bool ((decide ((hdecode_m (((hencode_m h).1).set ((pl % 18446744073709551616).toNat % 512) c)).2 = 0)) == false)) rfl rfl (run_pick rfl rfl rfl) ?_
      simp only [nz1, nz2, nz3]
      refine lvw 6 (.bool ((decide ((hdecode_m (((hencode_m h).1).set ((pl % 18446744073709551616).toNat % 512) c)).2 = 0)) == false)) rfl rfl (run_as rfl rfl) ?_
      simp only [nz1, nz2, nz3]
      refine wpList_nil ?_
      refine then_n (hK38 _ _ ?_)
      refine wp_ret ?_
      have he63 : lspoilt_m h pl c = ((decide ((hdecode_m (((hencode_m h).1).set ((pl % 18446744073709551616).toNat % 512) c)).2 = 0)) == false) := (show lspoilt_m h pl c = ((decide ((hdecode_m (((hencode_m h).1).set ((pl % 18446744073709551616).toNat % 512) c)).2 = 0)) == false) from by unfold lspoilt_m; rw [if_neg hs12, if_neg hc17, if_pos hs41, if_neg hs42, if_pos hs44, if_neg hs45, if_neg hs47, if_neg hs49, if_neg hs59] <;> rfl)
      exact ⟨rfl, .bool ((decide ((hdecode_m (((hencode_m h).1).set ((pl % 18446744073709551616).toNat % 512) c)).2 = 0)) == false), res_t rfl rfl, ⟨by (rw [he63]; try rfl), hm40.below⟩⟩
    simp only [nz1, nz2, nz3]
    refine lvw 78 (.bool true) rfl rfl (run_mv rfl rfl) ?_
    simp only [nz1, nz2, nz3]
    refine lvw 79 (.string (tx ((hencode_m h).1))) rfl rfl (run_mv rfl rfl) ?_
    simp only [nz1, nz2, nz3]
    refine lvw 80 (.int .u8 ((by' ((hencode_m h).1) 148 : Nat) : Int)) rfl rfl (t_char ((hencode_m h).1) 148 (by omega) Tryd.underlying9 rfl rfl rfl) ?_
    simp only [nz1, nz2, nz3]
    refine lvb 81 (by' ((hencode_m h).1) 148 = 48) rfl rfl (r_eql (by' ((hencode_m h).1) 148) 48 rfl rfl rfl) (fun hs60 => ?_) (fun hs60 => ?_)
    · simp only [nz1, nz2, nz3]
      refine lvw 82 (.bool true) rfl rfl (run_pick rfl rfl rfl) ?_
      simp only [nz1, nz2, nz3]
      refine lvw 83 (.bool true) rfl rfl (run_mv rfl rfl) ?_
      simp only [nz1, nz2, nz3]
      refine lvw 84 (.int .u8 ((c.toNat : Nat) : Int)) rfl rfl (run_mv rfl rfl) ?_
      simp only [nz1, nz2, nz3]
      refine lvw 85 (.bool (decide (c.toNat = 32))) rfl rfl (r_eql c.toNat 32 rfl rfl rfl) ?_
      simp only [nz1, nz2, nz3]
      refine lvw 86 (.bool (decide (c.toNat = 32))) rfl rfl (run_pick rfl rfl rfl) ?_
      simp only [nz1, nz2, nz3]
      refine lvw 87 (.bool (decide (c.toNat = 32))) rfl rfl (run_pickf rfl rfl rfl) ?_
      simp only [nz1, nz2, nz3]
      refine lvw 88 (.bool ((decide ((hdecode_m (((hencode_m h).1).set ((pl % 18446744073709551616).toNat % 512) c)).2 = 0)) == (decide (c.toNat = 32)))) rfl rfl (b_eql (decide ((hdecode_m (((hencode_m h).1).set ((pl % 18446744073709551616).toNat % 512) c)).2 = 0)) (decide (c.toNat = 32)) rfl rfl rfl) ?_
      simp only [nz1, nz2, nz3]
      refine lvw 89 (.bool ((decide ((hdecode_m (((hencode_m h).1).set ((pl % 18446744073709551616).toNat % 512) c)).2 = 0)) == (decide (c.toNat = 32)))) rfl rfl (run_pick rfl rfl rfl) ?_
      simp only [nz1, nz2, nz3]
      refine lvw 6 (.bool ((decide ((hdecode_m (((hencode_m h).1).set ((pl % 18446744073709551616).toNat % 512) c)).2 = 0)) == (decide (c.toNat = 32)))) rfl rfl (run_as rfl rfl) ?_
      simp only [nz1, nz2, nz3]
      refine wpList_nil ?_
      refine then_n (hK38 _ _ ?_)
      refine wp_ret ?_
      have he61 : lspoilt_m h pl c = ((decide ((hdecode_m (((hencode_m h).1).set ((pl % 18446744073709551616).toNat % 512) c)).2 = 0)) == (decide (c.toNat = 32))) := (show lspoilt_m h pl c = ((decide ((hdecode_m (((hencode_m h).1).set ((pl % 18446744073709551616).toNat % 512) c)).2 = 0)) == (decide (c.toNat = 32))) from by unfold lspoilt_m; rw [if_neg hs12, if_neg hc17, if_pos hs41, if_neg hs42, if_pos hs44, if_neg hs45, if_neg hs47, if_neg hs49, if_pos hs59, if_pos hs60] <;> rfl)
      exact ⟨rfl, .bool ((decide ((hdecode_m (((hencode_m h).1).set ((pl % 18446744073709551616).toNat % 512) c)).2 = 0)) == (decide (c.toNat = 32))), res_t rfl rfl, ⟨by (rw [he61]; try rfl), hm40.below⟩⟩
    simp only [nz1, nz2, nz3]
    refine lvw 82 (.bool false) rfl rfl (run_pick rfl rfl rfl) ?_
    simp only [nz1, nz2, nz3]
    refine lvw 83 (.bool false) rfl rfl (run_mv rfl rfl) ?_
    simp only [nz1, nz2, nz3]
    refine lst_skip 84 rfl rfl ?_
    simp only [nz1, nz2, nz3]
    refine lst_skip 85 rfl rfl ?_
    simp only [nz1, nz2, nz3]
    refine lvw 86 (.bool false) rfl rfl (run_pickf rfl rfl rfl) ?_
    simp only [nz1, nz2, nz3]
    refine lvw 87 (.bool false) rfl rfl (run_pickf rfl rfl rfl) ?_
    simp only [nz1, nz2, nz3]
    refine lvw 88 (.bool ((decide ((hdecode_m (((hencode_m h).1).set ((pl % 18446744073709551616).toNat % 512) c)).2 = 0)) == false)) rfl rfl (b_eql (decide ((hdecode_m (((hencode_m h).1).set ((pl % 18446744073709551616).toNat % 512) c)).2 = 0)) false rfl rfl rfl) ?_
    simp only [nz1, nz2, nz3]
    refine lvw 89 (.bool ((decide ((hdecode_m (((hencode_m h).1).set ((pl % 18446744073709551616).toNat % 512) c)).2 = 0)) == false)) rfl rfl (run_pick rfl rfl rfl) ?_
    simp only [nz1, nz2, nz3]
    refine lvw 6 (.bool ((decide ((hdecode_m (((hencode_m h).1).set ((pl % 18446744073709551616).toNat % 512) c)).2 = 0)) == false)) rfl rfl (run_as rfl rfl) ?_
    simp only [nz1, nz2, nz3]
    refine wpList_nil ?_
    refine then_n (hK38 _ _ ?_)
    refine wp_ret ?_
    have he62 : lspoilt_m h pl c = ((decide ((hdecode_m (((hencode_m h).1).set ((pl % 18446744073709551616).toNat % 512) c)).2 = 0)) == false) := (show lspoilt_m h pl c = ((decide ((hdecode_m (((hencode_m h).1).set ((pl % 18446744073709551616).toNat % 512) c)).2 = 0)) == false) from by unfold lspoilt_m; rw [if_neg hs12, if_neg hc17, if_pos hs41, if_neg hs42, if_pos hs44, if_neg hs45, if_neg hs47, if_neg hs49, if_pos hs59, if_neg hs60] <;> rfl)
    exact ⟨rfl, .bool ((decide ((hdecode_m (((hencode_m h).1).set ((pl % 18446744073709551616).toNat % 512) c)).2 = 0)) == false), res_t rfl rfl, ⟨by (rw [he62]; try rfl), hm40.below⟩⟩
  simp only [nz1, nz2, nz3]
  refine lvw 66 (.bool true) rfl rfl (run_mv rfl rfl) ?_
  simp only [nz1, nz2, nz3]
  refine lvw 67 (.int .u8 ((c.toNat : Nat) : Int)) rfl rfl (run_mv rfl rfl) ?_
  simp only [nz1, nz2, nz3]
  refine lvb 68 (c.toNat = 0) rfl rfl (r_eql c.toNat 0 rfl rfl rfl) (fun hs50 => ?_) (fun hs50 => ?_)
  · simp only [nz1, nz2, nz3]
    refine lvw 69 (.bool true) rfl rfl (run_mv rfl rfl) ?_
    simp only [nz1, nz2, nz3]
    refine lst_skip 70 rfl rfl ?_
    simp only [nz1, nz2, nz3]
    refine lst_skip 71 rfl rfl ?_
    simp only [nz1, nz2, nz3]
    refine lvw 72 (.bool true) rfl rfl (run_pick rfl rfl rfl) ?_
    simp only [nz1, nz2, nz3]
    refine lvw 73 (.bool true) rfl rfl (run_pick rfl rfl rfl) ?_
    simp only [nz1, nz2, nz3]
    refine lvw 74 (.bool true) rfl rfl (run_pickf rfl rfl rfl) ?_
    simp only [nz1, nz2, nz3]
    refine lvw 75 (.bool true) rfl rfl (run_mv rfl rfl) ?_
    simp only [nz1, nz2, nz3]
    refine lst_skip 76 rfl rfl ?_
    simp only [nz1, nz2, nz3]
    refine lst_skip 77 rfl rfl ?_
    simp only [nz1, nz2, nz3]
    refine lst_skip 78 rfl rfl ?_
    simp only [nz1, nz2, nz3]
    refine lst_skip 79 rfl rfl ?_
    simp only [nz1, nz2, nz3]
    refine lst_skip 80 rfl rfl ?_
    simp only [nz1, nz2, nz3]
    refine lst_skip 81 rfl rfl ?_
    simp only [nz1, nz2, nz3]
    refine lst_skip 82 rfl rfl ?_
    simp only [nz1, nz2, nz3]
    refine lst_skip 83 rfl rfl ?_
    simp only [nz1, nz2, nz3]
    refine lst_skip 84 rfl rfl ?_
    simp only [nz1, nz2, nz3]
    refine lst_skip 85 rfl rfl ?_
    simp only [nz1, nz2, nz3]
    refine lst_skip 86 rfl rfl ?_
    simp only [nz1, nz2, nz3]
    refine lvw 87 (.bool true) rfl rfl (run_pick rfl rfl rfl) ?_
    simp only [nz1, nz2, nz3]
    refine lvw 88 (.bool ((decide ((hdecode_m (((hencode_m h).1).set ((pl % 18446744073709551616).toNat % 512) c)).2 = 0)) == true)) rfl rfl (b_eql (decide ((hdecode_m (((hencode_m h).1).set ((pl % 18446744073709551616).toNat % 512) c)).2 = 0)) true rfl rfl rfl) ?_
    simp only [nz1, nz2, nz3]
    refine lvw 89 (.bool ((decide ((hdecode_m (((hencode_m h).1).set ((pl % 18446744073709551616).toNat % 512) c)).2 = 0)) == true)) rfl rfl (run_pick rfl rfl rfl) ?_
    simp only [nz1, nz2, nz3]
    refine lvw 6 (.bool ((decide ((hdecode_m (((hencode_m h).1).set ((pl % 18446744073709551616).toNat % 512) c)).2 = 0)) == true)) rfl rfl (run_as rfl rfl) ?_
    simp only [nz1, nz2, nz3]
    refine wpList_nil ?_
    refine then_n (hK38 _ _ ?_)
    refine wp_ret ?_
    have he51 : lspoilt_m h pl c = ((decide ((hdecode_m (((hencode_m h).1).set ((pl % 18446744073709551616).toNat % 512) c)).2 = 0)) == true) := (show lspoilt_m h pl c = ((decide ((hdecode_m (((hencode_m h).1).set ((pl % 18446744073709551616).toNat % 512) c)).2 = 0)) == true) from by unfold lspoilt_m; rw [if_neg hs12, if_neg hc17, if_pos hs41, if_neg hs42, if_pos hs44, if_neg hs45, if_neg hs47, if_pos hs49, if_pos hs50] <;> rfl)
    exact ⟨rfl, .bool ((decide ((hdecode_m (((hencode_m h).1).set ((pl % 18446744073709551616).toNat % 512) c)).2 = 0)) == true), res_t rfl rfl, ⟨by (rw [he51]; try rfl), hm40.below⟩⟩
  simp only [nz1, nz2, nz3]
  refine lvw 69 (.bool false) rfl rfl (run_mv rfl rfl) ?_
  simp only [nz1, nz2, nz3]
  refine lvw 70 (.int .u8 ((c.toNat : Nat) : Int)) rfl rfl (run_mv rfl rfl) ?_
  simp only [nz1, nz2, nz3]
  refine lvb 71 (c.toNat = 32) rfl rfl (r_eql c.toNat 32 rfl rfl rfl) (fun hs52 => ?_) (fun hs52 => ?_)
  · simp only [nz1, nz2, nz3]
    refine lvw 72 (.bool true) rfl rfl (run_pickf rfl rfl rfl) ?_
    simp only [nz1, nz2, nz3]
    refine lvw 73 (.bool true) rfl rfl (run_pick rfl rfl rfl) ?_
    simp only [nz1, nz2, nz3]
    refine lvw 74 (.bool true) rfl rfl (run_pickf rfl rfl rfl) ?_
    simp only [nz1, nz2, nz3]
    refine lvw 75 (.bool true) rfl rfl (run_mv rfl rfl) ?_
    simp only [nz1, nz2, nz3]
    refine lst_skip 76 rfl rfl ?_
    simp only [nz1, nz2, nz3]
    refine lst_skip 77 rfl rfl ?_
    simp only [nz1, nz2, nz3]
    refine lst_skip 78 rfl rfl ?_
    simp only [nz1, nz2, nz3]
    refine lst_skip 79 rfl rfl ?_
    simp only [nz1, nz2, nz3]
    refine lst_skip 80 rfl rfl ?_
    simp only [nz1, nz2, nz3]
    refine lst_skip 81 rfl rfl ?_
    simp only [nz1, nz2, nz3]
    refine lst_skip 82 rfl rfl ?_
    simp only [nz1, nz2, nz3]
    refine lst_skip 83 rfl rfl ?_
    simp only [nz1, nz2, nz3]
    refine lst_skip 84 rfl rfl ?_
    simp only [nz1, nz2, nz3]
    refine lst_skip 85 rfl rfl ?_
    simp only [nz1, nz2, nz3]
    refine lst_skip 86 rfl rfl ?_
    simp only [nz1, nz2, nz3]
    refine lvw 87 (.bool true) rfl rfl (run_pick rfl rfl rfl) ?_
    simp only [nz1, nz2, nz3]
    refine lvw 88 (.bool ((decide ((hdecode_m (((hencode_m h).1).set ((pl % 18446744073709551616).toNat % 512) c)).2 = 0)) == true)) rfl rfl (b_eql (decide ((hdecode_m (((hencode_m h).1).set ((pl % 18446744073709551616).toNat % 512) c)).2 = 0)) true rfl rfl rfl) ?_
    simp only [nz1, nz2, nz3]
    refine lvw 89 (.bool ((decide ((hdecode_m (((hencode_m h).1).set ((pl % 18446744073709551616).toNat % 512) c)).2 = 0)) == true)) rfl rfl (run_pick rfl rfl rfl) ?_
    simp only [nz1, nz2, nz3]
    refine lvw 6 (.bool ((decide ((hdecode_m (((hencode_m h).1).set ((pl % 18446744073709551616).toNat % 512) c)).2 = 0)) == true)) rfl rfl (run_as rfl rfl) ?_
    simp only [nz1, nz2, nz3]
    refine wpList_nil ?_
    refine then_n (hK38 _ _ ?_)
    refine wp_ret ?_
    have he53 : lspoilt_m h pl c = ((decide ((hdecode_m (((hencode_m h).1).set ((pl % 18446744073709551616).toNat % 512) c)).2 = 0)) == true) := (show lspoilt_m h pl c = ((decide ((hdecode_m (((hencode_m h).1).set ((pl % 18446744073709551616).toNat % 512) c)).2 = 0)) == true) from by unfold lspoilt_m; rw [if_neg hs12, if_neg hc17, if_pos hs41, if_neg hs42, if_pos hs44, if_neg hs45, if_neg hs47, if_pos hs49, if_neg hs50, if_pos hs52] <;> rfl)
    exact ⟨rfl, .bool ((decide ((hdecode_m (((hencode_m h).1).set ((pl % 18446744073709551616).toNat % 512) c)).2 = 0)) == true), res_t rfl rfl, ⟨by (rw [he53]; try rfl), hm40.below⟩⟩
  simp only [nz1, nz2, nz3]
  refine lvw 72 (.bool false) rfl rfl (run_pickf rfl rfl rfl) ?_
  simp only [nz1, nz2, nz3]
  refine lvw 73 (.bool false) rfl rfl (run_pick rfl rfl rfl) ?_
  simp only [nz1, nz2, nz3]
  refine lvw 74 (.bool false) rfl rfl (run_pickf rfl rfl rfl) ?_
  simp only [nz1, nz2, nz3]
  refine lvw 75 (.bool false) rfl rfl (run_mv rfl rfl) ?_
  simp only [nz1, nz2, nz3]
  refine lvw 76 (.int .i64 (((((pl % 18446744073709551616).toNat) % 512) : Nat) : Int)) rfl rfl (run_mv rfl rfl) ?_
  simp only [nz1, nz2, nz3]
  refine lvb 77 ((((pl % 18446744073709551616).toNat) % 512) = 148) rfl rfl (r_eql (((pl % 18446744073709551616).toNat) % 512) 148 rfl rfl rfl) (fun hs54 => ?_) (fun hs54 => ?_)
  rotate_left
  · simp only [nz1, nz2, nz3]
    refine lvw 78 (.bool false) rfl rfl (run_mv rfl rfl) ?_
    simp only [nz1, nz2, nz3]
    refine lst_skip 79 rfl rfl ?_
    simp only [nz1, nz2, nz3]
    refine lst_skip 80 rfl rfl ?_
    simp only [nz1, nz2, nz3]
    refine lst_skip 81 rfl rfl ?_
    simp only [nz1, nz2, nz3]
    refine lvw 82 (.bool false) rfl rfl (run_pickf rfl rfl rfl) ?_
    simp only [nz1, nz2, nz3]
    refine lvw 83 (.bool false) rfl rfl (run_mv rfl rfl) ?_
    simp only [nz1, nz2, nz3]
    refine lst_skip 84 rfl rfl ?_
    simp only [nz1, nz2, nz3]
    refine lst_skip 85 rfl rfl ?_
    simp only [nz1, nz2, nz3]
    refine lvw 86 (.bool false) rfl rfl (run_pickf rfl rfl rfl) ?_
    simp only [nz1, nz2, nz3]
    refine lvw 87 (.bool false) rfl rfl (run_pickf rfl rfl rfl) ?_
    simp only [nz1, nz2, nz3]
    refine lvw 88 (.bool ((decide ((hdecode_m (((hencode_m h).1).set ((pl % 18446744073709551616).toNat % 512) c)).2 = 0)) == false)) rfl rfl (b_eql (decide ((hdecode_m (((hencode_m h).1).set ((pl % 18446744073709551616).toNat % 512) c)).2 = 0)) false rfl rfl rfl) ?_
    simp only [nz1, nz2, nz3]
    refine lvw 89 (.bool ((decide ((hdecode_m (((hencode_m h).1).set ((pl % 18446744073709551616).toNat % 512) c)).2 = 0)) == false)) rfl rfl (run_pick rfl rfl rfl) ?_
    simp only [nz1, nz2, nz3]
    refine lvw 6 (.bool ((decide ((hdecode_m (((hencode_m h).1).set ((pl % 18446744073709551616).toNat % 512) c)).2 = 0)) == false)) rfl rfl (run_as rfl rfl) ?_
    simp only [nz1, nz2, nz3]
    refine wpList_nil ?_
    refine then_n (hK38 _ _ ?_)
    refine wp_ret ?_
    have he58 : lspoilt_m h pl c = ((decide ((hdecode_m (((hencode_m h).1).set ((pl % 18446744073709551616).toNat % 512) c)).2 = 0)) == false) := (show lspoilt_m h pl c = ((decide ((hdecode_m (((hencode_m h).1).set ((pl % 18446744073709551616).toNat % 512) c)).2 = 0)) == false) from by unfold lspoilt_m; rw [if_neg hs12, if_neg hc17, if_pos hs41, if_neg hs42, if_pos hs44, if_neg hs45, if_neg hs47, if_pos hs49, if_neg hs50, if_neg hs52, if_neg hs54] <;> rfl)
    exact ⟨rfl, .bool ((decide ((hdecode_m (((hencode_m h).1).set ((pl % 18446744073709551616).toNat % 512) c)).2 = 0)) == false), res_t rfl rfl, ⟨by (rw [he58]; try rfl), hm40.below⟩⟩
  simp only [nz1, nz2, nz3]
  refine lvw 78 (.bool true) rfl rfl (run_mv rfl rfl) ?_
  simp only [nz1, nz2, nz3]
  refine lvw 79 (.string (tx ((hencode_m h).1))) rfl rfl (run_mv rfl rfl) ?_
  simp only [nz1, nz2, nz3]
  refine lvw 80 (.int .u8 ((by' ((hencode_m h).1) 148 : Nat) : Int)) rfl rfl (t_char ((hencode_m h).1) 148 (by omega) Tryd.underlying9 rfl rfl rfl) ?_
  simp only [nz1, nz2, nz3]
  refine lvb 81 (by' ((hencode_m h).1) 148 = 48) rfl rfl (r_eql (by' ((hencode_m h).1) 148) 48 rfl rfl rfl) (fun hs55 => ?_) (fun hs55 => ?_)
  · simp only [nz1, nz2, nz3]
    refine lvw 82 (.bool true) rfl rfl (run_pick rfl rfl rfl) ?_
    simp only [nz1, nz2, nz3]
    refine lvw 83 (.bool true) rfl rfl (run_mv rfl rfl) ?_
    simp only [nz1, nz2, nz3]
    refine lvw 84 (.int .u8 ((c.toNat : Nat) : Int)) rfl rfl (run_mv rfl rfl) ?_
    simp only [nz1, nz2, nz3]
    refine lvw 85 (.bool (decide (c.toNat = 32))) rfl rfl (r_eql c.toNat 32 rfl rfl rfl) ?_
    simp only [nz1, nz2, nz3]
    refine lvw 86 (.bool (decide (c.toNat = 32))) rfl rfl (run_pick rfl rfl rfl) ?_
    simp only [nz1, nz2, nz3]
    refine lvw 87 (.bool (decide (c.toNat = 32))) rfl rfl (run_pickf rfl rfl rfl) ?_
    simp only [nz1, nz2, nz3]
    refine lvw 88 (.bool ((decide ((hdecode_m (((hencode_m h).1).set ((pl % 18446744073709551616).toNat % 512) c)).2 = 0)) == (decide (c.toNat = 32)))) rfl rfl (b_eql (decide ((hdecode_m (((hencode_m h).1).set ((pl % 18446744073709551616).toNat % 512) c)).2 = 0)) (decide (c.toNat = 32)) rfl rfl rfl) ?_
    simp only [nz1, nz2, nz3]
    refine lvw 89 (.bool ((decide ((hdecode_m (((hencode_m h).1).set ((pl % 18446744073709551616).toNat % 512) c)).2 = 0)) == (decide (c.toNat = 32)))) rfl rfl (run_pick rfl rfl rfl) ?_
    simp only [nz1, nz2, nz3]
    refine lvw 6 (.bool ((decide ((hdecode_m (((hencode_m h).1).set ((pl % 18446744073709551616).toNat % 512) c)).2 = 0)) == (decide (c.toNat = 32)))) rfl rfl (run_as rfl rfl) ?_
    simp only [nz1, nz2, nz3]
    refine wpList_nil ?_
    refine then_n (hK38 _ _ ?_)
    refine wp_ret ?_
    have he56 : lspoilt_m h pl c = ((decide ((hdecode_m (((hencode_m h).1).set ((pl % 18446744073709551616).toNat % 512) c)).2 = 0)) == (decide (c.toNat = 32))) := (show lspoilt_m h pl c = ((decide ((hdecode_m (((hencode_m h).1).set ((pl % 18446744073709551616).toNat % 512) c)).2 = 0)) == (decide (c.toNat = 32))) from by unfold lspoilt_m; rw [if_neg hs12, if_neg hc17, if_pos hs41, if_neg hs42, if_pos hs44, if_neg hs45, if_neg hs47, if_pos hs49, if_neg hs50, if_neg hs52, if_pos hs54, if_pos hs55] <;> rfl)
    exact ⟨rfl, .bool ((decide ((hdecode_m (((hencode_m h).1).set ((pl % 18446744073709551616).toNat % 512) c)).2 = 0)) == (decide (c.toNat = 32))), res_t rfl rfl, ⟨by (rw [he56]; try rfl), hm40.below⟩⟩
  simp only [nz1, nz2, nz3]
  refine lvw 82 (.bool false) rfl rfl (run_pick rfl rfl rfl) ?_
  simp only [nz1, nz2, nz3]
  refine lvw 83 (.bool false) rfl rfl (run_mv rfl rfl) ?_
  simp only [nz1, nz2, nz3]
  refine lst_skip 84 rfl rfl ?_
  simp only [nz1, nz2, nz3]
  refine lst_skip 85 rfl rfl ?_
  simp only [nz1, nz2, nz3]
  refine lvw 86 (.bool false) rfl rfl (run_pickf rfl rfl rfl) ?_
  simp only [nz1, nz2, nz3]
  refine lvw 87 (.bool false) rfl rfl (run_pickf rfl rfl rfl) ?_
  simp only [nz1, nz2, nz3]
  refine lvw 88 (.bool ((decide ((hdecode_m (((hencode_m h).1).set ((pl % 18446744073709551616).toNat % 512) c)).2 = 0)) == false)) rfl rfl (b_eql (decide ((hdecode_m (((hencode_m h).1).set ((pl % 18446744073709551616).toNat % 512) c)).2 = 0)) false rfl rfl rfl) ?_
  simp only [nz1, nz2, nz3]
  refine lvw 89 (.bool ((decide ((hdecode_m (((hencode_m h).1).set ((pl % 18446744073709551616).toNat % 512) c)).2 = 0)) == false)) rfl rfl (run_pick rfl rfl rfl) ?_
  simp only [nz1, nz2, nz3]
  refine lvw 6 (.bool ((decide ((hdecode_m (((hencode_m h).1).set ((pl % 18446744073709551616).toNat % 512) c)).2 = 0)) == false)) rfl rfl (run_as rfl rfl) ?_
  simp only [nz1, nz2, nz3]
  refine wpList_nil ?_
  refine then_n (hK38 _ _ ?_)
  refine wp_ret ?_
  have he57 : lspoilt_m h pl c = ((decide ((hdecode_m (((hencode_m h).1).set ((pl % 18446744073709551616).toNat % 512) c)).2 = 0)) == false) := (show lspoilt_m h pl c = ((decide ((hdecode_m (((hencode_m h).1).set ((pl % 18446744073709551616).toNat % 512) c)).2 = 0)) == false) from by unfold lspoilt_m; rw [if_neg hs12, if_neg hc17, if_pos hs41, if_neg hs42, if_pos hs44, if_neg hs45, if_neg hs47, if_pos hs49, if_neg hs50, if_neg hs52, if_pos hs54, if_neg hs55] <;> rfl)
  exact ⟨rfl, .bool ((decide ((hdecode_m (((hencode_m h).1).set ((pl % 18446744073709551616).toNat % 512) c)).2 = 0)) == false), res_t rfl rfl, ⟨by (rw [he57]; try rfl), hm40.below⟩⟩
theorem run_lspoilt {o : Oper} {a : Act} {w : World} {x0 x1 x2 : Operand} {v0 v1 v2 : Value} (ho : o.op = .call { callee := .value (.func 5), args := #[x0, x1, x2], argTypes := #[23, 3, 5] }) (h0 : a.eval x0 = v0) (h1 : a.eval x1 = v1) (h2 : a.eval x2 = v2) :
    (execOp a.eval o).run Tryd.prog w = .ok (.enter 5 #[v0, v1, v2]) w := by
  unfold execOp
  simp only [ho]
  have hf : a.eval (.func 5) = .func (.func 5) #[] #[] := rfl
  generalize a.eval = f at *
  go_simp
end Go.Proofs.YtglnifckngcpkaaDoor.Hd
