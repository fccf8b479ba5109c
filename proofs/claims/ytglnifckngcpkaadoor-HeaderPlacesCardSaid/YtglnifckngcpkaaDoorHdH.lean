/- Layer 9: HeaderPlaces. -/
import Derived.Test.YtglnifckngcpkaaDoorHdF
namespace Go.Proofs.YtglnifckngcpkaaDoor.Hd
open Go.RowKit
open Go.Proofs.YtglnifckngcpkaaDoor.Sym Go.Proofs.YtglnifckngcpkaaDoor.Mem
open Go.Proofs.YtglnifckngcpkaaDoor.Sx hiding Mm m_alloc m_store m_put m_call m_callx m_make m_append r_string r_ixS
set_option linter.unusedVariables false
attribute [local irreducible] octal_m put_m get_m hsum_m fits_m fill_m rep_m ib_m hcut_m cut_m hencode_m hdecode_m blank_m
attribute [local irreducible] wpList Oper.wp

def lplaces_m (h : Hdr) : Bool :=
  if ¬ (hencode_m h).2 = 0 then
    if hawake_m = true then
      (decide ((hencode_m h).1 = []))
    else
      false
  else
    if ¬ ((hencode_m h).1).length = 512 then
      false
    else
      if hawake_m = true then
        if (((hencode_m h).1).take h.name.length) = h.name then
          if by' ((hencode_m h).1) 156 = h.flag.toNat then
            if ((((hencode_m h).1).take (157 + h.link.length)).drop 157) = h.link then
              if ((((hencode_m h).1).take (345 + h.pfx.length)).drop 345) = h.pfx then
                if ((((hencode_m h).1).take 265).drop 257) = [117, 115, 116, 97, 114, 0, 48, 48] then
                  (decide (((((hencode_m h).1).take 156).drop 154) = [0, 32]))
                else
                  false
              else
                false
            else
              false
          else
            false
        else
          false
      else
        false

set_option maxHeartbeats 4000000 in
set_option maxRecDepth 100000 in
theorem lplaces_any (h : Hdr) (w : World)  (hT : Laid w) (hp0 : -9223372036854775808 ≤ h.mode) (hp1 : h.mode ≤ 9223372036854775807) (hp2 : -9223372036854775808 ≤ h.uid) (hp3 : h.uid ≤ 9223372036854775807) (hp4 : -9223372036854775808 ≤ h.gid) (hp5 : h.gid ≤ 9223372036854775807) (hp6 : -9223372036854775808 ≤ h.size) (hp7 : h.size ≤ 9223372036854775807) (hp8 : -9223372036854775808 ≤ h.time) (hp9 : h.time ≤ 9223372036854775807) : Calls Tryd.prog 7 #[.agg #[.string (tx h.name), .int .i64 (h.mode), .int .i64 (h.uid), .int .i64 (h.gid), .int .i64 (h.size), .int .i64 (h.time), .int .u8 ((h.flag.toNat : Nat) : Int), .string (tx h.link), .string (tx h.pfx)]] w (fun e w' => e = .returned (.bool ((lplaces_m h))) ∧ Below w.heap.size w w') := by
  go_enter Tryd.func7, Tryd.ntmps7
  have hm00 := Mm.nil none (fun _ => True) w
  have hm0 := hm00
  refine wp_seq_k (fun K1 hK1 => ?_)
  refine wp_region_lit ?_
  refine lst rfl (m_alloc (c := #[.string (tx h.name), .int .i64 (h.mode), .int .i64 (h.uid), .int .i64 (h.gid), .int .i64 (h.size), .int .i64 (h.time), .int .u8 ((h.flag.toNat : Nat) : Int), .string (tx h.link), .string (tx h.pfx)]) (T := 23) hm0 1 rfl (run_box rfl rfl) (fun g4 w2 (hm3 : Mm none (fun _ => True) w w2 [.blk g4 #[.string (tx h.name), .int .i64 (h.mode), .int .i64 (h.uid), .int .i64 (h.gid), .int .i64 (h.size), .int .i64 (h.time), .int .u8 ((h.flag.toNat : Nat) : Int), .string (tx h.link), .string (tx h.pfx)] 23]) => ?_))
  simp only [nz1, nz2, nz3]
  refine lvw 2 (.bool false) rfl rfl (run_as rfl rfl) ?_
  simp only [nz1, nz2, nz3]
  refine wpList_nil ?_
  refine then_n (hK1 _ _ ?_)
  refine wp_seq_k (fun K5 hK5 => ?_)
  refine wp_region_lit ?_
  refine lvw 6 (.agg #[.string (tx h.name), .int .i64 (h.mode), .int .i64 (h.uid), .int .i64 (h.gid), .int .i64 (h.size), .int .i64 (h.time), .int .u8 ((h.flag.toNat : Nat) : Int), .string (tx h.link), .string (tx h.pfx)]) rfl rfl (r_whole (hm3.at 0 rfl) Tryd.underlying23 rfl (by exact sz_23) rfl rfl) ?_
  simp only [nz1, nz2, nz3]
  refine lst rfl (m_call hm3 7 (.tuple #[.string (tx ((hencode_m h).1)), .int .i64 ((hencode_m h).2)]) rfl (run_hencode rfl rfl) (hencode_any h  _  (Laid.below hT hm3.below) (by first | omega | assumption | (simp; done) | (simp; omega) | (simp only [List.length_append, List.length_cons, List.length_nil]; omega) | (simp only [List.length_append, List.length_cons, List.length_nil] at *; omega) | decide) (by first | omega | assumption | (simp; done) | (simp; omega) | (simp only [List.length_append, List.length_cons, List.length_nil]; omega) | (simp only [List.length_append, List.length_cons, List.length_nil] at *; omega) | decide) (by first | omega | assumption | (simp; done) | (simp; omega) | (simp only [List.length_append, List.length_cons, List.length_nil]; omega) | (simp only [List.length_append, List.length_cons, List.length_nil] at *; omega) | decide) (by first | omega | assumption | (simp; done) | (simp; omega) | (simp only [List.length_append, List.length_cons, List.length_nil]; omega) | (simp only [List.length_append, List.length_cons, List.length_nil] at *; omega) | decide) (by first | omega | assumption | (simp; done) | (simp; omega) | (simp only [List.length_append, List.length_cons, List.length_nil]; omega) | (simp only [List.length_append, List.length_cons, List.length_nil] at *; omega) | decide) (by first | omega | assumption | (simp; done) | (simp; omega) | (simp only [List.length_append, List.length_cons, List.length_nil]; omega) | (simp only [List.length_append, List.length_cons, List.length_nil] at *; omega) | decide) (by first | omega | assumption | (simp; done) | (simp; omega) | (simp only [List.length_append, List.length_cons, List.length_nil]; omega) | (simp only [List.length_append, List.length_cons, List.length_nil] at *; omega) | decide) (by first | omega | assumption | (simp; done) | (simp; omega) | (simp only [List.length_append, List.length_cons, List.length_nil]; omega) | (simp only [List.length_append, List.length_cons, List.length_nil] at *; omega) | decide) (by first | omega | assumption | (simp; done) | (simp; omega) | (simp only [List.length_append, List.length_cons, List.length_nil]; omega) | (simp only [List.length_append, List.length_cons, List.length_nil] at *; omega) | decide) (by first | omega | assumption | (simp; done) | (simp; omega) | (simp only [List.length_append, List.length_cons, List.length_nil]; omega) | (simp only [List.length_append, List.length_cons, List.length_nil] at *; omega) | decide)) (fun w6 (hm7 : Mm none (fun _ => True) w w6 [.blk g4 #[.string (tx h.name), .int .i64 (h.mode), .int .i64 (h.uid), .int .i64 (h.gid), .int .i64 (h.size), .int .i64 (h.time), .int .u8 ((h.flag.toNat : Nat) : Int), .string (tx h.link), .string (tx h.pfx)] 23]) => ?_))
  have hf8 : (hencode_m h).1.length ≤ 512 := hencode_len h
  have hf9 : ¬ (hencode_m h).2 = 0 ∨ (h.name.length ≤ 100 ∧ h.link.length ≤ 100 ∧ h.pfx.length ≤ 155) := hencode_fit h
  simp only [nz1, nz2, nz3]
  refine lvw 5 (.tuple #[.string (tx ((hencode_m h).1)), .int .i64 ((hencode_m h).2)]) rfl rfl (run_mv rfl rfl) ?_
  simp only [nz1, nz2, nz3]
  refine lvw 8 (.string (tx ((hencode_m h).1))) rfl rfl (run_ex rfl rfl rfl) ?_
  simp only [nz1, nz2, nz3]
  refine lvw 9 (.int .i64 ((hencode_m h).2)) rfl rfl (run_ex rfl rfl rfl) ?_
  simp only [nz1, nz2, nz3]
  refine lvw 3 (.string (tx ((hencode_m h).1))) rfl rfl (run_as rfl rfl) ?_
  simp only [nz1, nz2, nz3]
  refine lvw 4 (.int .i64 ((hencode_m h).2)) rfl rfl (run_as rfl rfl) ?_
  simp only [nz1, nz2, nz3]
  refine wpList_nil ?_
  refine then_n (hK5 _ _ ?_)
  refine wp_seq_k (fun K10 hK10 => ?_)
  refine wp_seq_k (fun K11 hK11 => ?_)
  refine wp_region_lit ?_
  refine lvw 10 (.int .i64 ((hencode_m h).2)) rfl rfl (run_mv rfl rfl) ?_
  simp only [nz1, nz2, nz3]
  refine lvw 11 (.bool (decide (¬ (hencode_m h).2 = 0))) rfl rfl (z_neq ((hencode_m h).2) 0 rfl rfl rfl) ?_
  simp only [nz1, nz2, nz3]
  refine wpList_nil ?_
  refine then_n (hK11 _ _ ?_)
  refine cond_d (¬ (hencode_m h).2 = 0) rfl (fun hc12 => ?_) (fun hc12 => ?_)
  · refine wp_seq_k (fun K13 hK13 => ?_)
    refine wp_region_lit ?_
    refine lst rfl (m_call hm7 12 (.bool (hawake_m)) rfl (run_hawake rfl) (hawake_any   _  (Laid.below hT hm7.below) ) (fun w14 (hm15 : Mm none (fun _ => True) w w14 [.blk g4 #[.string (tx h.name), .int .i64 (h.mode), .int .i64 (h.uid), .int .i64 (h.gid), .int .i64 (h.size), .int .i64 (h.time), .int .u8 ((h.flag.toNat : Nat) : Int), .string (tx h.link), .string (tx h.pfx)] 23]) => ?_))
    simp only [nz1, nz2, nz3]
    by_cases hs16 : hawake_m = true
    · rw [(hs16 : hawake_m = true)]
      refine lvw 13 (.bool true) rfl rfl (run_mv rfl rfl) ?_
      simp only [nz1, nz2, nz3]
      refine lvw 14 (.string (tx ((hencode_m h).1))) rfl rfl (run_mv rfl rfl) ?_
      simp only [nz1, nz2, nz3]
      refine lvw 15 (.bool (decide ((hencode_m h).1 = []))) rfl rfl (t_eql ((hencode_m h).1) ([]) rfl rfl rfl) ?_
      simp only [nz1, nz2, nz3]
      refine lvw 16 (.bool (decide ((hencode_m h).1 = []))) rfl rfl (run_pick rfl rfl rfl) ?_
      simp only [nz1, nz2, nz3]
      refine lvw 2 (.bool (decide ((hencode_m h).1 = []))) rfl rfl (run_as rfl rfl) ?_
      simp only [nz1, nz2, nz3]
      refine wpList_nil ?_
      refine then_n (hK13 _ _ ?_)
      refine wp_ret ?_
      refine then_r ?_
      have he17 : lplaces_m h = (decide ((hencode_m h).1 = [])) := (show lplaces_m h = (decide ((hencode_m h).1 = [])) from by unfold lplaces_m; rw [if_pos hc12, if_pos hs16] <;> rfl)
      exact ⟨rfl, .bool (decide ((hencode_m h).1 = [])), res_t rfl rfl, ⟨by (rw [he17]; try rfl), hm15.below⟩⟩
    rw [(Bool.eq_false_iff.2 hs16 : hawake_m = false)]
    refine lvw 13 (.bool false) rfl rfl (run_mv rfl rfl) ?_
    simp only [nz1, nz2, nz3]
    refine lst_skip 14 rfl rfl ?_
    simp only [nz1, nz2, nz3]
    refine lst_skip 15 rfl rfl ?_
    simp only [nz1, nz2, nz3]
    refine lvw 16 (.bool false) rfl rfl (run_pickf rfl rfl rfl) ?_
    simp only [nz1, nz2, nz3]
    refine lvw 2 (.bool false) rfl rfl (run_as rfl rfl) ?_
    simp only [nz1, nz2, nz3]
    refine wpList_nil ?_
    refine then_n (hK13 _ _ ?_)
    refine wp_ret ?_
    refine then_r ?_
    have he18 : lplaces_m h = false := (show lplaces_m h = false from by unfold lplaces_m; rw [if_pos hc12, if_neg hs16] <;> rfl)
    exact ⟨rfl, .bool false, res_t rfl rfl, ⟨by (rw [he18]; try rfl), hm15.below⟩⟩
  refine wp_skip ?_
  refine then_n (hK10 _ _ ?_)
  refine wp_seq_k (fun K19 hK19 => ?_)
  refine wp_seq_k (fun K20 hK20 => ?_)
  refine wp_region_lit ?_
  refine lvw 17 (.string (tx ((hencode_m h).1))) rfl rfl (run_mv rfl rfl) ?_
  simp only [nz1, nz2, nz3]
  refine lvw 18 (.int .i64 ((((hencode_m h).1).length : Nat) : Int)) rfl rfl (t_len rfl Tryd.underlying9 rfl) ?_
  simp only [nz1, nz2, nz3]
  refine lvw 19 (.bool (decide (¬ ((hencode_m h).1).length = 512))) rfl rfl (r_neq (((hencode_m h).1).length) 512 rfl rfl rfl) ?_
  simp only [nz1, nz2, nz3]
  refine wpList_nil ?_
  refine then_n (hK20 _ _ ?_)
  refine cond_d (¬ ((hencode_m h).1).length = 512) rfl (fun hc21 => ?_) (fun hc21 => ?_)
  · refine wp_seq_k (fun K22 hK22 => ?_)
    refine wp_region_lit ?_
    refine lvw 2 (.bool false) rfl rfl (run_as rfl rfl) ?_
    simp only [nz1, nz2, nz3]
    refine wpList_nil ?_
    refine then_n (hK22 _ _ ?_)
    refine wp_ret ?_
    refine then_r ?_
    have he23 : lplaces_m h = false := (show lplaces_m h = false from by unfold lplaces_m; rw [if_neg hc12, if_pos hc21] <;> rfl)
    exact ⟨rfl, .bool false, res_t rfl rfl, ⟨by (rw [he23]; try rfl), hm7.below⟩⟩
  refine wp_skip ?_
  refine then_n (hK19 _ _ ?_)
  refine wp_seq_k (fun K24 hK24 => ?_)
  have hm25 := hm7.drew
  refine wp_region_held_drew (S := fun w' => Mem.Blk w' g4 (#[.string (tx h.name), .int .i64 (h.mode), .int .i64 (h.uid), .int .i64 (h.gid), .int .i64 (h.size), .int .i64 (h.time), .int .u8 ((h.flag.toNat : Nat) : Int), .string (tx h.link), .string (tx h.pfx)]) 23) (by kernel_rfl) (hm25.at 0 rfl) (fun _ => ?_)
  generalize w6.drew = w26 at *
  refine one_ready 0 (by kernel_rfl) ?_
  refine opd rfl (wanted_none rfl) (m_call hm25 20 (.bool (hawake_m)) rfl (run_hawake rfl) (hawake_any   _  (Laid.below hT hm25.below) ) (fun w27 (hm28 : Mm none (fun _ => True) w w27 [.blk g4 #[.string (tx h.name), .int .i64 (h.mode), .int .i64 (h.uid), .int .i64 (h.gid), .int .i64 (h.size), .int .i64 (h.time), .int .u8 ((h.flag.toNat : Nat) : Int), .string (tx h.link), .string (tx h.pfx)] 23]) => ?_))
  refine ⟨hm28.at 0 rfl, ?_⟩
  simp only [nz1, nz2, nz3]
  by_cases hs29 : hawake_m = true
  rotate_left
  · rw [(Bool.eq_false_iff.2 hs29 : hawake_m = false)]
    refine tk 1 21 (.bool false) rfl rfl (fun _ hw => run_mv rfl rfl) (hm28.at 0 rfl) ?_
    simp only [nz1, nz2, nz3]
    refine skx 2 22 rfl rfl rfl (hm28.at 0 rfl) ?_
    simp only [nz1, nz2, nz3]
    refine skx 3 23 rfl rfl rfl (hm28.at 0 rfl) ?_
    simp only [nz1, nz2, nz3]
    refine skx 4 24 rfl rfl rfl (hm28.at 0 rfl) ?_
    simp only [nz1, nz2, nz3]
    refine skx 5 25 rfl rfl rfl (hm28.at 0 rfl) ?_
    simp only [nz1, nz2, nz3]
    refine skx 6 26 rfl rfl rfl (hm28.at 0 rfl) ?_
    simp only [nz1, nz2, nz3]
    refine skx 7 27 rfl rfl rfl (hm28.at 0 rfl) ?_
    simp only [nz1, nz2, nz3]
    refine skx 8 28 rfl rfl rfl (hm28.at 0 rfl) ?_
    simp only [nz1, nz2, nz3]
    refine skx 9 29 rfl rfl rfl (hm28.at 0 rfl) ?_
    simp only [nz1, nz2, nz3]
    refine tk 10 30 (.bool false) rfl rfl (fun _ hw => run_pickf rfl rfl rfl) (hm28.at 0 rfl) ?_
    simp only [nz1, nz2, nz3]
    refine tk 11 31 (.bool false) rfl rfl (fun _ hw => run_mv rfl rfl) (hm28.at 0 rfl) ?_
    simp only [nz1, nz2, nz3]
    refine skx 12 32 rfl rfl rfl (hm28.at 0 rfl) ?_
    simp only [nz1, nz2, nz3]
    refine skx 13 33 rfl rfl rfl (hm28.at 0 rfl) ?_
    simp only [nz1, nz2, nz3]
    refine skx 14 34 rfl rfl rfl (hm28.at 0 rfl) ?_
    simp only [nz1, nz2, nz3]
    refine skx 15 35 rfl rfl rfl (hm28.at 0 rfl) ?_
    simp only [nz1, nz2, nz3]
    refine skx 16 36 rfl rfl rfl (hm28.at 0 rfl) ?_
    simp only [nz1, nz2, nz3]
    refine tk 17 37 (.bool false) rfl rfl (fun _ hw => run_pickf rfl rfl rfl) (hm28.at 0 rfl) ?_
    simp only [nz1, nz2, nz3]
    refine tk 18 38 (.bool false) rfl rfl (fun _ hw => run_mv rfl rfl) (hm28.at 0 rfl) ?_
    simp only [nz1, nz2, nz3]
    refine skx 19 39 rfl rfl rfl (hm28.at 0 rfl) ?_
    simp only [nz1, nz2, nz3]
    refine skx 20 40 rfl rfl rfl (hm28.at 0 rfl) ?_
    simp only [nz1, nz2, nz3]
    refine skx 21 41 rfl rfl rfl (hm28.at 0 rfl) ?_
    simp only [nz1, nz2, nz3]
    refine skx 22 42 rfl rfl rfl (hm28.at 0 rfl) ?_
    simp only [nz1, nz2, nz3]
    refine skx 23 43 rfl rfl rfl (hm28.at 0 rfl) ?_
    simp only [nz1, nz2, nz3]
    refine skx 24 44 rfl rfl rfl (hm28.at 0 rfl) ?_
    simp only [nz1, nz2, nz3]
    refine skx 25 45 rfl rfl rfl (hm28.at 0 rfl) ?_
    simp only [nz1, nz2, nz3]
    refine skx 26 46 rfl rfl rfl (hm28.at 0 rfl) ?_
    simp only [nz1, nz2, nz3]
    refine skx 27 47 rfl rfl rfl (hm28.at 0 rfl) ?_
    simp only [nz1, nz2, nz3]
    refine tk 28 48 (.bool false) rfl rfl (fun _ hw => run_pickf rfl rfl rfl) (hm28.at 0 rfl) ?_
    simp only [nz1, nz2, nz3]
    refine tk 29 49 (.bool false) rfl rfl (fun _ hw => run_mv rfl rfl) (hm28.at 0 rfl) ?_
    simp only [nz1, nz2, nz3]
    refine skx 30 50 rfl rfl rfl (hm28.at 0 rfl) ?_
    simp only [nz1, nz2, nz3]
    refine skx 31 51 rfl rfl rfl (hm28.at 0 rfl) ?_
    simp only [nz1, nz2, nz3]
    refine skx 32 52 rfl rfl rfl (hm28.at 0 rfl) ?_
    simp only [nz1, nz2, nz3]
    refine skx 33 53 rfl rfl rfl (hm28.at 0 rfl) ?_
    simp only [nz1, nz2, nz3]
    refine skx 34 54 rfl rfl rfl (hm28.at 0 rfl) ?_
    simp only [nz1, nz2, nz3]
    refine skx 35 55 rfl rfl rfl (hm28.at 0 rfl) ?_
    simp only [nz1, nz2, nz3]
    refine skx 36 56 rfl rfl rfl (hm28.at 0 rfl) ?_
    simp only [nz1, nz2, nz3]
    refine skx 37 57 rfl rfl rfl (hm28.at 0 rfl) ?_
    simp only [nz1, nz2, nz3]
    refine skx 38 58 rfl rfl rfl (hm28.at 0 rfl) ?_
    simp only [nz1, nz2, nz3]
    refine tk 39 59 (.bool false) rfl rfl (fun _ hw => run_pickf rfl rfl rfl) (hm28.at 0 rfl) ?_
    simp only [nz1, nz2, nz3]
    refine tk 40 60 (.bool false) rfl rfl (fun _ hw => run_mv rfl rfl) (hm28.at 0 rfl) ?_
    simp only [nz1, nz2, nz3]
    refine skx 41 61 rfl rfl rfl (hm28.at 0 rfl) ?_
    simp only [nz1, nz2, nz3]
    refine skx 42 62 rfl rfl rfl (hm28.at 0 rfl) ?_
    simp only [nz1, nz2, nz3]
    refine skx 43 63 rfl rfl rfl (hm28.at 0 rfl) ?_
    simp only [nz1, nz2, nz3]
    refine tk 44 64 (.bool false) rfl rfl (fun _ hw => run_pickf rfl rfl rfl) (hm28.at 0 rfl) ?_
    simp only [nz1, nz2, nz3]
    refine tk 45 65 (.bool false) rfl rfl (fun _ hw => run_mv rfl rfl) (hm28.at 0 rfl) ?_
    simp only [nz1, nz2, nz3]
    refine skx 46 66 rfl rfl rfl (hm28.at 0 rfl) ?_
    simp only [nz1, nz2, nz3]
    refine skx 47 67 rfl rfl rfl (hm28.at 0 rfl) ?_
    simp only [nz1, nz2, nz3]
    refine skx 48 68 rfl rfl rfl (hm28.at 0 rfl) ?_
    simp only [nz1, nz2, nz3]
    refine tk 49 69 (.bool false) rfl rfl (fun _ hw => run_pickf rfl rfl rfl) (hm28.at 0 rfl) ?_
    simp only [nz1, nz2, nz3]
    refine one_ready 50 (by kernel_rfl) ?_
    refine opd rfl (wanted_none rfl) (w_value 2 (.bool false) rfl (run_as rfl rfl) ⟨hm28.at 0 rfl, ?_⟩)
    simp only [nz1, nz2, nz3]
    refine wpAnyH_done (by kernel_rfl) ?_ _
    refine then_n (hK24 _ _ ?_)
    refine wp_ret ?_
    have he41 : lplaces_m h = false := (show lplaces_m h = false from by unfold lplaces_m; rw [if_neg hc12, if_neg hc21, if_neg hs29] <;> rfl)
    exact ⟨rfl, .bool false, res_t rfl rfl, ⟨by (rw [he41]; try rfl), hm28.below⟩⟩
  rw [(hs29 : hawake_m = true)]
  refine tk 1 21 (.bool true) rfl rfl (fun _ hw => run_mv rfl rfl) (hm28.at 0 rfl) ?_
  simp only [nz1, nz2, nz3]
  refine Sym.take_at 2 22 (.string (tx ((hencode_m h).1))) rfl rfl (by kernel_rfl) (by kernel_rfl) (by kernel_rfl) (fun _ _ _ h => h) rfl (fun _ hw => run_mv rfl rfl) (hm28.at 0 rfl) ?_
  simp only [nz1, nz2, nz3]
  refine Sym.take_at 3 23 (.pointer (some ⟨g4, 0, none⟩)) rfl rfl (by kernel_rfl) (by kernel_rfl) (by kernel_rfl) (fun _ _ _ h => h) rfl (fun _ hw => r_fa23_0 g4 0 rfl rfl) (hm28.at 0 rfl) ?_
  simp only [nz1, nz2, nz3]
  refine Sym.take_at 4 24 (.string (tx h.name)) rfl rfl (by kernel_rfl) (by kernel_rfl) (by kernel_rfl) (fun _ _ _ h => h) rfl (fun _ hw => r_load hw rfl Tryd.underlying9 rfl rfl rfl) (hm28.at 0 rfl) ?_
  simp only [nz1, nz2, nz3]
  refine Sym.take_at 5 25 (.int .i64 ((h.name.length : Nat) : Int)) rfl rfl (by kernel_rfl) (by kernel_rfl) (by kernel_rfl) (fun _ _ _ h => h) rfl (fun _ hw => t_len rfl Tryd.underlying9 rfl) (hm28.at 0 rfl) ?_
  simp only [nz1, nz2, nz3]
  refine Sym.take_at 6 26 (.string (tx (((hencode_m h).1).take h.name.length))) rfl rfl (by kernel_rfl) (by kernel_rfl) (by kernel_rfl) (fun _ _ _ h => h) rfl (fun _ hw => t_to ((hencode_m h).1) h.name.length (by omega) Tryd.underlying9 rfl rfl rfl) (hm28.at 0 rfl) ?_
  simp only [nz1, nz2, nz3]
  refine Sym.take_at 7 27 (.pointer (some ⟨g4, 0, none⟩)) rfl rfl (by kernel_rfl) (by kernel_rfl) (by kernel_rfl) (fun _ _ _ h => h) rfl (fun _ hw => r_fa23_0 g4 0 rfl rfl) (hm28.at 0 rfl) ?_
  simp only [nz1, nz2, nz3]
  refine Sym.take_at 8 28 (.string (tx h.name)) rfl rfl (by kernel_rfl) (by kernel_rfl) (by kernel_rfl) (fun _ _ _ h => h) rfl (fun _ hw => r_load hw rfl Tryd.underlying9 rfl rfl rfl) (hm28.at 0 rfl) ?_
  simp only [nz1, nz2, nz3]
  refine tkb 9 29 ((((hencode_m h).1).take h.name.length) = h.name) rfl rfl rfl (fun _ hw => t_eql (((hencode_m h).1).take h.name.length) h.name rfl rfl rfl) (hm28.at 0 rfl) (fun hs30 => ?_) (fun hs30 => ?_)
  rotate_left
  · simp only [nz1, nz2, nz3]
    refine tk 10 30 (.bool false) rfl rfl (fun _ hw => run_pick rfl rfl rfl) (hm28.at 0 rfl) ?_
    simp only [nz1, nz2, nz3]
    refine tk 11 31 (.bool false) rfl rfl (fun _ hw => run_mv rfl rfl) (hm28.at 0 rfl) ?_
    simp only [nz1, nz2, nz3]
    refine skx 12 32 rfl rfl rfl (hm28.at 0 rfl) ?_
    simp only [nz1, nz2, nz3]
    refine skx 13 33 rfl rfl rfl (hm28.at 0 rfl) ?_
    simp only [nz1, nz2, nz3]
    refine skx 14 34 rfl rfl rfl (hm28.at 0 rfl) ?_
    simp only [nz1, nz2, nz3]
    refine skx 15 35 rfl rfl rfl (hm28.at 0 rfl) ?_
    simp only [nz1, nz2, nz3]
    refine skx 16 36 rfl rfl rfl (hm28.at 0 rfl) ?_
    simp only [nz1, nz2, nz3]
    refine tk 17 37 (.bool false) rfl rfl (fun _ hw => run_pickf rfl rfl rfl) (hm28.at 0 rfl) ?_
    simp only [nz1, nz2, nz3]
    refine tk 18 38 (.bool false) rfl rfl (fun _ hw => run_mv rfl rfl) (hm28.at 0 rfl) ?_
    simp only [nz1, nz2, nz3]
    refine skx 19 39 rfl rfl rfl (hm28.at 0 rfl) ?_
    simp only [nz1, nz2, nz3]
    refine skx 20 40 rfl rfl rfl (hm28.at 0 rfl) ?_
    simp only [nz1, nz2, nz3]
    refine skx 21 41 rfl rfl rfl (hm28.at 0 rfl) ?_
    simp only [nz1, nz2, nz3]
    refine skx 22 42 rfl rfl rfl (hm28.at 0 rfl) ?_
    simp only [nz1, nz2, nz3]
    refine skx 23 43 rfl rfl rfl (hm28.at 0 rfl) ?_
    simp only [nz1, nz2, nz3]
    refine skx 24 44 rfl rfl rfl (hm28.at 0 rfl) ?_
    simp only [nz1, nz2, nz3]
    refine skx 25 45 rfl rfl rfl (hm28.at 0 rfl) ?_
    simp only [nz1, nz2, nz3]
    refine skx 26 46 rfl rfl rfl (hm28.at 0 rfl) ?_
    simp only [nz1, nz2, nz3]
    refine skx 27 47 rfl rfl rfl (hm28.at 0 rfl) ?_
    simp only [nz1, nz2, nz3]
    refine tk 28 48 (.bool false) rfl rfl (fun _ hw => run_pickf rfl rfl rfl) (hm28.at 0 rfl) ?_
    simp only [nz1, nz2, nz3]
    refine tk 29 49 (.bool false) rfl rfl (fun _ hw => run_mv rfl rfl) (hm28.at 0 rfl) ?_
    simp only [nz1, nz2, nz3]
    refine skx 30 50 rfl rfl rfl (hm28.at 0 rfl) ?_
    simp only [nz1, nz2, nz3]
    refine skx 31 51 rfl rfl rfl (hm28.at 0 rfl) ?_
    simp only [nz1, nz2, nz3]
    refine skx 32 52 rfl rfl rfl (hm28.at 0 rfl) ?_
    simp only [nz1, nz2, nz3]
    refine skx 33 53 rfl rfl rfl (hm28.at 0 rfl) ?_
    simp only [nz1, nz2, nz3]
    refine skx 34 54 rfl rfl rfl (hm28.at 0 rfl) ?_
    simp only [nz1, nz2, nz3]
    refine skx 35 55 rfl rfl rfl (hm28.at 0 rfl) ?_
    simp only [nz1, nz2, nz3]
    refine skx 36 56 rfl rfl rfl (hm28.at 0 rfl) ?_
    simp only [nz1, nz2, nz3]
    refine skx 37 57 rfl rfl rfl (hm28.at 0 rfl) ?_
    simp only [nz1, nz2, nz3]
    refine skx 38 58 rfl rfl rfl (hm28.at 0 rfl) ?_
    simp only [nz1, nz2, nz3]
    refine tk 39 59 (.bool false) rfl rfl (fun _ hw => run_pickf rfl rfl rfl) (hm28.at 0 rfl) ?_
    simp only [nz1, nz2, nz3]
    refine tk 40 60 (.bool false) rfl rfl (fun _ hw => run_mv rfl rfl) (hm28.at 0 rfl) ?_
    simp only [nz1, nz2, nz3]
    refine skx 41 61 rfl rfl rfl (hm28.at 0 rfl) ?_
    simp only [nz1, nz2, nz3]
    refine skx 42 62 rfl rfl rfl (hm28.at 0 rfl) ?_
    simp only [nz1, nz2, nz3]
    refine skx 43 63 rfl rfl rfl (hm28.at 0 rfl) ?_
    simp only [nz1, nz2, nz3]
    refine tk 44 64 (.bool false) rfl rfl (fun _ hw => run_pickf rfl rfl rfl) (hm28.at 0 rfl) ?_
    simp only [nz1, nz2, nz3]
    refine tk 45 65 (.bool false) rfl rfl (fun _ hw => run_mv rfl rfl) (hm28.at 0 rfl) ?_
    simp only [nz1, nz2, nz3]
    refine skx 46 66 rfl rfl rfl (hm28.at 0 rfl) ?_
    simp only [nz1, nz2, nz3]
    refine skx 47 67 rfl rfl rfl (hm28.at 0 rfl) ?_
    simp only [nz1, nz2, nz3]
    refine skx 48 68 rfl rfl rfl (hm28.at 0 rfl) ?_
    simp only [nz1, nz2, nz3]
    refine tk 49 69 (.bool false) rfl rfl (fun _ hw => run_pickf rfl rfl rfl) (hm28.at 0 rfl) ?_
    simp only [nz1, nz2, nz3]
    refine one_ready 50 (by kernel_rfl) ?_
    refine opd rfl (wanted_none rfl) (w_value 2 (.bool false) rfl (run_as rfl rfl) ⟨hm28.at 0 rfl, ?_⟩)
    simp only [nz1, nz2, nz3]
    refine wpAnyH_done (by kernel_rfl) ?_ _
    refine then_n (hK24 _ _ ?_)
    refine wp_ret ?_
    have he40 : lplaces_m h = false := (show lplaces_m h = false from by unfold lplaces_m; rw [if_neg hc12, if_neg hc21, if_pos hs29, if_neg hs30] <;> rfl)
    exact ⟨rfl, .bool false, res_t rfl rfl, ⟨by (rw [he40]; try rfl), hm28.below⟩⟩
  simp only [nz1, nz2, nz3]
  refine tk 10 30 (.bool true) rfl rfl (fun _ hw => run_pick rfl rfl rfl) (hm28.at 0 rfl) ?_
  simp only [nz1, nz2, nz3]
  refine tk 11 31 (.bool true) rfl rfl (fun _ hw => run_mv rfl rfl) (hm28.at 0 rfl) ?_
  simp only [nz1, nz2, nz3]
  refine Sym.take_at 12 32 (.string (tx ((hencode_m h).1))) rfl rfl (by kernel_rfl) (by kernel_rfl) (by kernel_rfl) (fun _ _ _ h => h) rfl (fun _ hw => run_mv rfl rfl) (hm28.at 0 rfl) ?_
  simp only [nz1, nz2, nz3]
  refine Sym.take_at 13 33 (.int .u8 ((by' ((hencode_m h).1) 156 : Nat) : Int)) rfl rfl (by kernel_rfl) (by kernel_rfl) (by kernel_rfl) (fun _ _ _ h => h) rfl (fun _ hw => t_char ((hencode_m h).1) 156 (by omega) Tryd.underlying9 rfl rfl rfl) (hm28.at 0 rfl) ?_
  simp only [nz1, nz2, nz3]
  refine Sym.take_at 14 34 (.pointer (some ⟨g4, 6, none⟩)) rfl rfl (by kernel_rfl) (by kernel_rfl) (by kernel_rfl) (fun _ _ _ h => h) rfl (fun _ hw => r_fa23_6 g4 0 rfl rfl) (hm28.at 0 rfl) ?_
  simp only [nz1, nz2, nz3]
  refine Sym.take_at 15 35 (.int .u8 ((h.flag.toNat : Nat) : Int)) rfl rfl (by kernel_rfl) (by kernel_rfl) (by kernel_rfl) (fun _ _ _ h => h) rfl (fun _ hw => r_load hw rfl Tryd.underlying5 rfl rfl rfl) (hm28.at 0 rfl) ?_
  simp only [nz1, nz2, nz3]
  refine tkb 16 36 (by' ((hencode_m h).1) 156 = h.flag.toNat) rfl rfl rfl (fun _ hw => r_eql (by' ((hencode_m h).1) 156) h.flag.toNat rfl rfl rfl) (hm28.at 0 rfl) (fun hs31 => ?_) (fun hs31 => ?_)
  rotate_left
  · simp only [nz1, nz2, nz3]
    refine tk 17 37 (.bool false) rfl rfl (fun _ hw => run_pick rfl rfl rfl) (hm28.at 0 rfl) ?_
    simp only [nz1, nz2, nz3]
    refine tk 18 38 (.bool false) rfl rfl (fun _ hw => run_mv rfl rfl) (hm28.at 0 rfl) ?_
    simp only [nz1, nz2, nz3]
    refine skx 19 39 rfl rfl rfl (hm28.at 0 rfl) ?_
    simp only [nz1, nz2, nz3]
    refine skx 20 40 rfl rfl rfl (hm28.at 0 rfl) ?_
    simp only [nz1, nz2, nz3]
    refine skx 21 41 rfl rfl rfl (hm28.at 0 rfl) ?_
    simp only [nz1, nz2, nz3]
    refine skx 22 42 rfl rfl rfl (hm28.at 0 rfl) ?_
    simp only [nz1, nz2, nz3]
    refine skx 23 43 rfl rfl rfl (hm28.at 0 rfl) ?_
    simp only [nz1, nz2, nz3]
    refine skx 24 44 rfl rfl rfl (hm28.at 0 rfl) ?_
    simp only [nz1, nz2, nz3]
    refine skx 25 45 rfl rfl rfl (hm28.at 0 rfl) ?_
    simp only [nz1, nz2, nz3]
    refine skx 26 46 rfl rfl rfl (hm28.at 0 rfl) ?_
    simp only [nz1, nz2, nz3]
    refine skx 27 47 rfl rfl rfl (hm28.at 0 rfl) ?_
    simp only [nz1, nz2, nz3]
    refine tk 28 48 (.bool false) rfl rfl (fun _ hw => run_pickf rfl rfl rfl) (hm28.at 0 rfl) ?_
    simp only [nz1, nz2, nz3]
    refine tk 29 49 (.bool false) rfl rfl (fun _ hw => run_mv rfl rfl) (hm28.at 0 rfl) ?_
    simp only [nz1, nz2, nz3]
    refine skx 30 50 rfl rfl rfl (hm28.at 0 rfl) ?_
    simp only [nz1, nz2, nz3]
    refine skx 31 51 rfl rfl rfl (hm28.at 0 rfl) ?_
    simp only [nz1, nz2, nz3]
    refine skx 32 52 rfl rfl rfl (hm28.at 0 rfl) ?_
    simp only [nz1, nz2, nz3]
    refine skx 33 53 rfl rfl rfl (hm28.at 0 rfl) ?_
    simp only [nz1, nz2, nz3]
    refine skx 34 54 rfl rfl rfl (hm28.at 0 rfl) ?_
    simp only [nz1, nz2, nz3]
    refine skx 35 55 rfl rfl rfl (hm28.at 0 rfl) ?_
    simp only [nz1, nz2, nz3]
    refine skx 36 56 rfl rfl rfl (hm28.at 0 rfl) ?_
    simp only [nz1, nz2, nz3]
    refine skx 37 57 rfl rfl rfl (hm28.at 0 rfl) ?_
    simp only [nz1, nz2, nz3]
    refine skx 38 58 rfl rfl rfl (hm28.at 0 rfl) ?_
    simp only [nz1, nz2, nz3]
    refine tk 39 59 (.bool false) rfl rfl (fun _ hw => run_pickf rfl rfl rfl) (hm28.at 0 rfl) ?_
    simp only [nz1, nz2, nz3]
    refine tk 40 60 (.bool false) rfl rfl (fun _ hw => run_mv rfl rfl) (hm28.at 0 rfl) ?_
    simp only [nz1, nz2, nz3]
    refine skx 41 61 rfl rfl rfl (hm28.at 0 rfl) ?_
    simp only [nz1, nz2, nz3]
    refine skx 42 62 rfl rfl rfl (hm28.at 0 rfl) ?_
    simp only [nz1, nz2, nz3]
    refine skx 43 63 rfl rfl rfl (hm28.at 0 rfl) ?_
    simp only [nz1, nz2, nz3]
    refine tk 44 64 (.bool false) rfl rfl (fun _ hw => run_pickf rfl rfl rfl) (hm28.at 0 rfl) ?_
    simp only [nz1, nz2, nz3]
    refine tk 45 65 (.bool false) rfl rfl (fun _ hw => run_mv rfl rfl) (hm28.at 0 rfl) ?_
    simp only [nz1, nz2, nz3]
    refine skx 46 66 rfl rfl rfl (hm28.at 0 rfl) ?_
    simp only [nz1, nz2, nz3]
    refine skx 47 67 rfl rfl rfl (hm28.at 0 rfl) ?_
    simp only [nz1, nz2, nz3]
    refine skx 48 68 rfl rfl rfl (hm28.at 0 rfl) ?_
    simp only [nz1, nz2, nz3]
    refine tk 49 69 (.bool false) rfl rfl (fun _ hw => run_pickf rfl rfl rfl) (hm28.at 0 rfl) ?_
    simp only [nz1, nz2, nz3]
    refine one_ready 50 (by kernel_rfl) ?_
    refine opd rfl (wanted_none rfl) (w_value 2 (.bool false) rfl (run_as rfl rfl) ⟨hm28.at 0 rfl, ?_⟩)
    simp only [nz1, nz2, nz3]
    refine wpAnyH_done (by kernel_rfl) ?_ _
    refine then_n (hK24 _ _ ?_)
    refine wp_ret ?_
    have he39 : lplaces_m h = false := (show lplaces_m h = false from by unfold lplaces_m; rw [if_neg hc12, if_neg hc21, if_pos hs29, if_pos hs30, if_neg hs31] <;> rfl)
    exact ⟨rfl, .bool false, res_t rfl rfl, ⟨by (rw [he39]; try rfl), hm28.below⟩⟩
  simp only [nz1, nz2, nz3]
  refine tk 17 37 (.bool true) rfl rfl (fun _ hw => run_pick rfl rfl rfl) (hm28.at 0 rfl) ?_
  simp only [nz1, nz2, nz3]
  refine tk 18 38 (.bool true) rfl rfl (fun _ hw => run_mv rfl rfl) (hm28.at 0 rfl) ?_
  simp only [nz1, nz2, nz3]
  refine Sym.take_at 19 39 (.string (tx ((hencode_m h).1))) rfl rfl (by kernel_rfl) (by kernel_rfl) (by kernel_rfl) (fun _ _ _ h => h) rfl (fun _ hw => run_mv rfl rfl) (hm28.at 0 rfl) ?_
  simp only [nz1, nz2, nz3]
  refine Sym.take_at 20 40 (.pointer (some ⟨g4, 7, none⟩)) rfl rfl (by kernel_rfl) (by kernel_rfl) (by kernel_rfl) (fun _ _ _ h => h) rfl (fun _ hw => r_fa23_7 g4 0 rfl rfl) (hm28.at 0 rfl) ?_
  simp only [nz1, nz2, nz3]
  refine Sym.take_at 21 41 (.string (tx h.link)) rfl rfl (by kernel_rfl) (by kernel_rfl) (by kernel_rfl) (fun _ _ _ h => h) rfl (fun _ hw => r_load hw rfl Tryd.underlying9 rfl rfl rfl) (hm28.at 0 rfl) ?_
  simp only [nz1, nz2, nz3]
  refine Sym.take_at 22 42 (.int .i64 ((h.link.length : Nat) : Int)) rfl rfl (by kernel_rfl) (by kernel_rfl) (by kernel_rfl) (fun _ _ _ h => h) rfl (fun _ hw => t_len rfl Tryd.underlying9 rfl) (hm28.at 0 rfl) ?_
  simp only [nz1, nz2, nz3]
  refine Sym.take_at 23 43 (.int .i64 (((157 + h.link.length) : Nat) : Int)) rfl rfl (by kernel_rfl) (by kernel_rfl) (by kernel_rfl) (fun _ _ _ h => h) rfl (fun _ hw => r_add 157 h.link.length (show (157 + h.link.length) < 9223372036854775808 from by omega) rfl rfl rfl) (hm28.at 0 rfl) ?_
  simp only [nz1, nz2, nz3]
  refine Sym.take_at 24 44 (.string (tx ((((hencode_m h).1).take (157 + h.link.length)).drop 157))) rfl rfl (by kernel_rfl) (by kernel_rfl) (by kernel_rfl) (fun _ _ _ h => h) rfl (fun _ hw => t_cut ((hencode_m h).1) 157 (157 + h.link.length) (by omega) (by omega) Tryd.underlying9 rfl rfl rfl rfl) (hm28.at 0 rfl) ?_
  simp only [nz1, nz2, nz3]
  refine Sym.take_at 25 45 (.pointer (some ⟨g4, 7, none⟩)) rfl rfl (by kernel_rfl) (by kernel_rfl) (by kernel_rfl) (fun _ _ _ h => h) rfl (fun _ hw => r_fa23_7 g4 0 rfl rfl) (hm28.at 0 rfl) ?_
  simp only [nz1, nz2, nz3]
  refine Sym.take_at 26 46 (.string (tx h.link)) rfl rfl (by kernel_rfl) (by kernel_rfl) (by kernel_rfl) (fun _ _ _ h => h) rfl (fun _ hw => r_load hw rfl Tryd.underlying9 rfl rfl rfl) (hm28.at 0 rfl) ?_
  simp only [nz1, nz2, nz3]
  refine tkb 27 47 (((((hencode_m h).1).take (157 + h.link.length)).drop 157) = h.link) rfl rfl rfl (fun _ hw => t_eql ((((hencode_m h).1).take (157 + h.link.length)).drop 157) h.link rfl rfl rfl) (hm28.at 0 rfl) (fun hs32 => ?_) (fun hs32 => ?_)
  rotate_left
  · simp only [nz1, nz2, nz3]
    refine tk 28 48 (.bool false) rfl rfl (fun _ hw => run_pick rfl rfl rfl) (hm28.at 0 rfl) ?_
    simp only [nz1, nz2, nz3]
    refine tk 29 49 (.bool false) rfl rfl (fun _ hw => run_mv rfl rfl) (hm28.at 0 rfl) ?_
    simp only [nz1, nz2, nz3]
    refine skx 30 50 rfl rfl rfl (hm28.at 0 rfl) ?_
    simp only [nz1, nz2, nz3]
    refine skx 31 51 rfl rfl rfl (hm28.at 0 rfl) ?_
    simp only [nz1, nz2, nz3]
    refine skx 32 52 rfl rfl rfl (hm28.at 0 rfl) ?_
    simp only [nz1, nz2, nz3]
    refine skx 33 53 rfl rfl rfl (hm28.at 0 rfl) ?_
    simp only [nz1, nz2, nz3]
    refine skx 34 54 rfl rfl rfl (hm28.at 0 rfl) ?_
    simp only [nz1, nz2, nz3]
    refine skx 35 55 rfl rfl rfl (hm28.at 0 rfl) ?_
    simp only [nz1, nz2, nz3]
    refine skx 36 56 rfl rfl rfl (hm28.at 0 rfl) ?_
    simp only [nz1, nz2, nz3]
    refine skx 37 57 rfl rfl rfl (hm28.at 0 rfl) ?_
    simp only [nz1, nz2, nz3]
    refine skx 38 58 rfl rfl rfl (hm28.at 0 rfl) ?_
    simp only [nz1, nz2, nz3]
    refine tk 39 59 (.bool false) rfl rfl (fun _ hw => run_pickf rfl rfl rfl) (hm28.at 0 rfl) ?_
    simp only [nz1, nz2, nz3]
    refine tk 40 60 (.bool false) rfl rfl (fun _ hw => run_mv rfl rfl) (hm28.at 0 rfl) ?_
    simp only [nz1, nz2, nz3]
    refine skx 41 61 rfl rfl rfl (hm28.at 0 rfl) ?_
    simp only [nz1, nz2, nz3]
    refine skx 42 62 rfl rfl rfl (hm28.at 0 rfl) ?_
    simp only [nz1, nz2, nz3]
    refine skx 43 63 rfl rfl rfl (hm28.at 0 rfl) ?_
    simp only [nz1, nz2, nz3]
    refine tk 44 64 (.bool false) rfl rfl (fun _ hw => run_pickf rfl rfl rfl) (hm28.at 0 rfl) ?_
    simp only [nz1, nz2, nz3]
    refine tk 45 65 (.bool false) rfl rfl (fun _ hw => run_mv rfl rfl) (hm28.at 0 rfl) ?_
    simp only [nz1, nz2, nz3]
    refine skx 46 66 rfl rfl rfl (hm28.at 0 rfl) ?_
    simp only [nz1, nz2, nz3]
    refine skx 47 67 rfl rfl rfl (hm28.at 0 rfl) ?_
    simp only [nz1, nz2, nz3]
    refine skx 48 68 rfl rfl rfl (hm28.at 0 rfl) ?_
    simp only [nz1, nz2, nz3]
    refine tk 49 69 (.bool false) rfl rfl (fun _ hw => run_pickf rfl rfl rfl) (hm28.at 0 rfl) ?_
    simp only [nz1, nz2, nz3]
    refine one_ready 50 (by kernel_rfl) ?_
    refine opd rfl (wanted_none rfl) (w_value 2 (.bool false) rfl (run_as rfl rfl) ⟨hm28.at 0 rfl, ?_⟩)
    simp only [nz1, nz2, nz3]
    refine wpAnyH_done (by kernel_rfl) ?_ _
    refine then_n (hK24 _ _ ?_)
    refine wp_ret ?_
    have he38 : lplaces_m h = false := (show lplaces_m h = false from by unfold lplaces_m; rw [if_neg hc12, if_neg hc21, if_pos hs29, if_pos hs30, if_pos hs31, if_neg hs32] <;> rfl)
    exact ⟨rfl, .bool false, res_t rfl rfl, ⟨by (rw [he38]; try rfl), hm28.below⟩⟩
  simp only [nz1, nz2, nz3]
  refine tk 28 48 (.bool true) rfl rfl (fun _ hw => run_pick rfl rfl rfl) (hm28.at 0 rfl) ?_
  simp only [nz1, nz2, nz3]
  refine tk 29 49 (.bool true) rfl rfl (fun _ hw => run_mv rfl rfl) (hm28.at 0 rfl) ?_
  simp only [nz1, nz2, nz3]
  refine Sym.take_at 30 50 (.string (tx ((hencode_m h).1))) rfl rfl (by kernel_rfl) (by kernel_rfl) (by kernel_rfl) (fun _ _ _ h => h) rfl (fun _ hw => run_mv rfl rfl) (hm28.at 0 rfl) ?_
  simp only [nz1, nz2, nz3]
  refine Sym.take_at 31 51 (.pointer (some ⟨g4, 8, none⟩)) rfl rfl (by kernel_rfl) (by kernel_rfl) (by kernel_rfl) (fun _ _ _ h => h) rfl (fun _ hw => r_fa23_8 g4 0 rfl rfl) (hm28.at 0 rfl) ?_
  simp only [nz1, nz2, nz3]
  refine Sym.take_at 32 52 (.string (tx h.pfx)) rfl rfl (by kernel_rfl) (by kernel_rfl) (by kernel_rfl) (fun _ _ _ h => h) rfl (fun _ hw => r_load hw rfl Tryd.underlying9 rfl rfl rfl) (hm28.at 0 rfl) ?_
  simp only [nz1, nz2, nz3]
  refine Sym.take_at 33 53 (.int .i64 ((h.pfx.length : Nat) : Int)) rfl rfl (by kernel_rfl) (by kernel_rfl) (by kernel_rfl) (fun _ _ _ h => h) rfl (fun _ hw => t_len rfl Tryd.underlying9 rfl) (hm28.at 0 rfl) ?_
  simp only [nz1, nz2, nz3]
  refine Sym.take_at 34 54 (.int .i64 (((345 + h.pfx.length) : Nat) : Int)) rfl rfl (by kernel_rfl) (by kernel_rfl) (by kernel_rfl) (fun _ _ _ h => h) rfl (fun _ hw => r_add 345 h.pfx.length (show (345 + h.pfx.length) < 9223372036854775808 from by omega) rfl rfl rfl) (hm28.at 0 rfl) ?_
  simp only [nz1, nz2, nz3]
  refine Sym.take_at 35 55 (.string (tx ((((hencode_m h).1).take (345 + h.pfx.length)).drop 345))) rfl rfl (by kernel_rfl) (by kernel_rfl) (by kernel_rfl) (fun _ _ _ h => h) rfl (fun _ hw => t_cut ((hencode_m h).1) 345 (345 + h.pfx.length) (by omega) (by omega) Tryd.underlying9 rfl rfl rfl rfl) (hm28.at 0 rfl) ?_
  simp only [nz1, nz2, nz3]
  refine Sym.take_at 36 56 (.pointer (some ⟨g4, 8, none⟩)) rfl rfl (by kernel_rfl) (by kernel_rfl) (by kernel_rfl) (fun _ _ _ h => h) rfl (fun _ hw => r_fa23_8 g4 0 rfl rfl) (hm28.at 0 rfl) ?_
  simp only [nz1, nz2, nz3]
  refine Sym.take_at 37 57 (.string (tx h.pfx)) rfl rfl (by kernel_rfl) (by kernel_rfl) (by kernel_rfl) (fun _ _ _ h => h) rfl (fun _ hw => r_load hw rfl Tryd.underlying9 rfl rfl rfl) (hm28.at 0 rfl) ?_
  simp only [nz1, nz2, nz3]
  refine tkb 38 58 (((((hencode_m h).1).take (345 + h.pfx.length)).drop 345) = h.pfx) rfl rfl rfl (fun _ hw => t_eql ((((hencode_m h).1).take (345 + h.pfx.length)).drop 345) h.pfx rfl rfl rfl) (hm28.at 0 rfl) (fun hs33 => ?_) (fun hs33 => ?_)
  rotate_left
  · simp only [nz1, nz2, nz3]
    refine tk 39 59 (.bool false) rfl rfl (fun _ hw => run_pick rfl rfl rfl) (hm28.at 0 rfl) ?_
    simp only [nz1, nz2, nz3]
    refine tk 40 60 (.bool false) rfl rfl (fun _ hw => run_mv rfl rfl) (hm28.at 0 rfl) ?_
    simp only [nz1, nz2, nz3]
    refine skx 41 61 rfl rfl rfl (hm28.at 0 rfl) ?_
    simp only [nz1, nz2, nz3]
    refine skx 42 62 rfl rfl rfl (hm28.at 0 rfl) ?_
    simp only [nz1, nz2, nz3]
    refine skx 43 63 rfl rfl rfl (hm28.at 0 rfl) ?_
    simp only [nz1, nz2, nz3]
    refine tk 44 64 (.bool false) rfl rfl (fun _ hw => run_pickf rfl rfl rfl) (hm28.at 0 rfl) ?_
    simp only [nz1, nz2, nz3]
    refine tk 45 65 (.bool false) rfl rfl (fun _ hw => run_mv rfl rfl) (hm28.at 0 rfl) ?_
    simp only [nz1, nz2, nz3]
    refine skx 46 66 rfl rfl rfl (hm28.at 0 rfl) ?_
    simp only [nz1, nz2, nz3]
    refine skx 47 67 rfl rfl rfl (hm28.at 0 rfl) ?_
    simp only [nz1, nz2, nz3]
    refine skx 48 68 rfl rfl rfl (hm28.at 0 rfl) ?_
    simp only [nz1, nz2, nz3]
    refine tk 49 69 (.bool false) rfl rfl (fun _ hw => run_pickf rfl rfl rfl) (hm28.at 0 rfl) ?_
    simp only [nz1, nz2, nz3]
    refine one_ready 50 (by kernel_rfl) ?_
    refine opd rfl (wanted_none rfl) (w_value 2 (.bool false) rfl (run_as rfl rfl) ⟨hm28.at 0 rfl, ?_⟩)
    simp only [nz1, nz2, nz3]
    refine wpAnyH_done (by kernel_rfl) ?_ _
    refine then_n (hK24 _ _ ?_)
    refine wp_ret ?_
    have he37 : lplaces_m h = false := (show lplaces_m h = false from by unfold lplaces_m; rw [if_neg hc12, if_neg hc21, if_pos hs29, if_pos hs30, if_pos hs31, if_pos hs32, if_neg hs33] <;> rfl)
    exact ⟨rfl, .bool false, res_t rfl rfl, ⟨by (rw [he37]; try rfl), hm28.below⟩⟩
  simp only [nz1, nz2, nz3]
  refine tk 39 59 (.bool true) rfl rfl (fun _ hw => run_pick rfl rfl rfl) (hm28.at 0 rfl) ?_
  simp only [nz1, nz2, nz3]
  refine tk 40 60 (.bool true) rfl rfl (fun _ hw => run_mv rfl rfl) (hm28.at 0 rfl) ?_
  simp only [nz1, nz2, nz3]
  refine Sym.take_at 41 61 (.string (tx ((hencode_m h).1))) rfl rfl (by kernel_rfl) (by kernel_rfl) (by kernel_rfl) (fun _ _ _ h => h) rfl (fun _ hw => run_mv rfl rfl) (hm28.at 0 rfl) ?_
  simp only [nz1, nz2, nz3]
  refine Sym.take_at 42 62 (.string (tx ((((hencode_m h).1).take 265).drop 257))) rfl rfl (by kernel_rfl) (by kernel_rfl) (by kernel_rfl) (fun _ _ _ h => h) rfl (fun _ hw => t_cut ((hencode_m h).1) 257 265 (by omega) (by omega) Tryd.underlying9 rfl rfl rfl rfl) (hm28.at 0 rfl) ?_
  simp only [nz1, nz2, nz3]
  refine tkb 43 63 (((((hencode_m h).1).take 265).drop 257) = [117, 115, 116, 97, 114, 0, 48, 48]) rfl rfl rfl (fun _ hw => t_eql ((((hencode_m h).1).take 265).drop 257) ([117, 115, 116, 97, 114, 0, 48, 48]) rfl rfl rfl) (hm28.at 0 rfl) (fun hs34 => ?_) (fun hs34 => ?_)
  · simp only [nz1, nz2, nz3]
    refine tk 44 64 (.bool true) rfl rfl (fun _ hw => run_pick rfl rfl rfl) (hm28.at 0 rfl) ?_
    simp only [nz1, nz2, nz3]
    refine tk 45 65 (.bool true) rfl rfl (fun _ hw => run_mv rfl rfl) (hm28.at 0 rfl) ?_
    simp only [nz1, nz2, nz3]
    refine Sym.take_at 46 66 (.string (tx ((hencode_m h).1))) rfl rfl (by kernel_rfl) (by kernel_rfl) (by kernel_rfl) (fun _ _ _ h => h) rfl (fun _ hw => run_mv rfl rfl) (hm28.at 0 rfl) ?_
    simp only [nz1, nz2, nz3]
    refine Sym.take_at 47 67 (.string (tx ((((hencode_m h).1).take 156).drop 154))) rfl rfl (by kernel_rfl) (by kernel_rfl) (by kernel_rfl) (fun _ _ _ h => h) rfl (fun _ hw => t_cut ((hencode_m h).1) 154 156 (by omega) (by omega) Tryd.underlying9 rfl rfl rfl rfl) (hm28.at 0 rfl) ?_
    simp only [nz1, nz2, nz3]
    refine Sym.take_at 48 68 (.bool (decide (((((hencode_m h).1).take 156).drop 154) = [0, 32]))) rfl rfl (by kernel_rfl) (by kernel_rfl) (by kernel_rfl) (fun _ _ _ h => h) rfl (fun _ hw => t_eql ((((hencode_m h).1).take 156).drop 154) ([0, 32]) rfl rfl rfl) (hm28.at 0 rfl) ?_
    simp only [nz1, nz2, nz3]
    refine tk 49 69 (.bool (decide (((((hencode_m h).1).take 156).drop 154) = [0, 32]))) rfl rfl (fun _ hw => run_pick rfl rfl rfl) (hm28.at 0 rfl) ?_
    simp only [nz1, nz2, nz3]
    refine one_ready 50 (by kernel_rfl) ?_
    refine opd rfl (wanted_none rfl) (w_value 2 (.bool (decide (((((hencode_m h).1).take 156).drop 154) = [0, 32]))) rfl (run_as rfl rfl) ⟨hm28.at 0 rfl, ?_⟩)
    simp only [nz1, nz2, nz3]
    refine wpAnyH_done (by kernel_rfl) ?_ _
    refine then_n (hK24 _ _ ?_)
    refine wp_ret ?_
    have he35 : lplaces_m h = (decide (((((hencode_m h).1).take 156).drop 154) = [0, 32])) := (show lplaces_m h = (decide (((((hencode_m h).1).take 156).drop 154) = [0, 32])) from by unfold lplaces_m; rw [if_neg hc12, if_neg hc21, if_pos hs29, if_pos hs30, if_pos hs31, if_pos hs32, if_pos hs33, if_pos hs34] <;> rfl)
    exact ⟨rfl, .bool (decide (((((hencode_m h).1).take 156).drop 154) = [0, 32])), res_t rfl rfl, ⟨by (rw [he35]; try rfl), hm28.below⟩⟩
  simp only [nz1, nz2, nz3]
  refine tk 44 64 (.bool false) rfl rfl (fun _ hw => run_pick rfl rfl rfl) (hm28.at 0 rfl) ?_
  simp only [nz1, nz2, nz3]
  refine tk 45 65 (.bool false) rfl rfl (fun _ hw => run_mv rfl rfl) (hm28.at 0 rfl) ?_
  simp only [nz1, nz2, nz3]
  refine skx 46 66 rfl rfl rfl (hm28.at 0 rfl) ?_
  simp only [nz1, nz2, nz3]
  refine skx 47 67 rfl rfl rfl (hm28.at 0 rfl) ?_
  simp only [nz1, nz2, nz3]
  refine skx 48 68 rfl rfl rfl (hm28.at 0 rfl) ?_
  simp only [nz1, nz2, nz3]
  refine tk 49 69 (.bool false) rfl rfl (fun _ hw => run_pickf rfl rfl rfl) (hm28.at 0 rfl) ?_
  simp only [nz1, nz2, nz3]
  refine one_ready 50 (by kernel_rfl) ?_
  refine opd rfl (wanted_none rfl) (w_value 2 (.bool false) rfl (run_as rfl rfl) ⟨hm28.at 0 rfl, ?_⟩)
  simp only [nz1, nz2, nz3]
  refine wpAnyH_done (by kernel_rfl) ?_ _
  refine then_n (hK24 _ _ ?_)
  refine wp_ret ?_
  have he36 : lplaces_m h = false := (show lplaces_m h = false from by unfold lplaces_m; rw [if_neg hc12, if_neg hc21, if_pos hs29, if_pos hs30, if_pos hs31, if_pos hs32, if_pos hs33, if_neg hs34] <;> rfl)
  exact ⟨rfl, .bool false, res_t rfl rfl, ⟨by (rw [he36]; try rfl), hm28.below⟩⟩
theorem run_lplaces {o : Oper} {a : Act} {w : World} {x0 : Operand} {v0 : Value} (ho : o.op = .call { callee := .value (.func 7), args := #[x0], argTypes := #[23] }) (h0 : a.eval x0 = v0) :
    (execOp a.eval o).run Tryd.prog w = .ok (.enter 7 #[v0]) w := by
  unfold execOp
  simp only [ho]
  have hf : a.eval (.func 7) = .func (.func 7) #[] #[] := rfl
  generalize a.eval = f at *
  go_simp
end Go.Proofs.YtglnifckngcpkaaDoor.Hd
