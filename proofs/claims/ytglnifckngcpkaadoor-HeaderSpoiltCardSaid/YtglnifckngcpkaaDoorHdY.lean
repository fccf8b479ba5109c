/- Layer 9: a header written as the document says. -/
import Derived.Test.YtglnifckngcpkaaDoorHdU
namespace Go.Proofs.YtglnifckngcpkaaDoor.Hd
open Go.RowKit
open Go.Proofs.YtglnifckngcpkaaDoor.Sym Go.Proofs.YtglnifckngcpkaaDoor.Mem
open Go.Proofs.YtglnifckngcpkaaDoor.Sx hiding Mm m_alloc m_store m_put m_call m_callx m_make m_append r_string r_ixS
set_option linter.unusedVariables false
set_option linter.unusedSimpArgs false
attribute [local irreducible] rput_m rnums_m rsum_m rfield_m roct_m
attribute [local irreducible] wpList Oper.wp

def rencode_m (h : Hdr) : (List UInt8) × Int :=
  if (!((rfield_m h.name 100).2)) = true then
    (([]), 3)
  else
    if (!((rfield_m h.link 100).2)) = true then
      (([]), 3)
    else
      if (!((rfield_m h.pfx 155).2)) = true then
        (([]), 3)
      else
        if ¬ (rnums_m h).2 = 0 then
          (([]), (rnums_m h).2)
        else
          ((((((((((rfield_m h.name 100).1 ++ ((rnums_m h).1).i0) ++ ((rnums_m h).1).i1) ++ ((rnums_m h).1).i2) ++ ((rnums_m h).1).i3) ++ ((rnums_m h).1).i4) ++ (roct_m (rsum_m ((((((((rfield_m h.name 100).1 ++ ((rnums_m h).1).i0) ++ ((rnums_m h).1).i1) ++ ((rnums_m h).1).i2) ++ ((rnums_m h).1).i3) ++ ((rnums_m h).1).i4) ++ [32, 32, 32, 32, 32, 32, 32, 32]) ++ (((((([h.flag] : List UInt8) ++ (rfield_m h.link 100).1) ++ [117, 115, 116, 97, 114, 0, 48, 48]) ++ (rfield_m ([]) 80).1) ++ (rfield_m h.pfx 155).1) ++ (rfield_m ([]) 12).1))) 6).1) ++ [0, 32]) ++ (((((([h.flag] : List UInt8) ++ (rfield_m h.link 100).1) ++ [117, 115, 116, 97, 114, 0, 48, 48]) ++ (rfield_m ([]) 80).1) ++ (rfield_m h.pfx 155).1) ++ (rfield_m ([]) 12).1)), 0)

set_option maxHeartbeats 4000000 in
set_option maxRecDepth 100000 in
theorem rencode_any (h : Hdr) (w : World)  (hp0 : -9223372036854775808 ≤ h.mode) (hp1 : h.mode ≤ 9223372036854775807) (hp2 : -9223372036854775808 ≤ h.uid) (hp3 : h.uid ≤ 9223372036854775807) (hp4 : -9223372036854775808 ≤ h.gid) (hp5 : h.gid ≤ 9223372036854775807) (hp6 : -9223372036854775808 ≤ h.size) (hp7 : h.size ≤ 9223372036854775807) (hp8 : -9223372036854775808 ≤ h.time) (hp9 : h.time ≤ 9223372036854775807) : Calls Tryd.prog 15 #[.agg #[.string (tx h.name), .int .i64 (h.mode), .int .i64 (h.uid), .int .i64 (h.gid), .int .i64 (h.size), .int .i64 (h.time), .int .u8 ((h.flag.toNat : Nat) : Int), .string (tx h.link), .string (tx h.pfx)]] w (fun e w' => e = .returned (.tuple #[.string (tx ((rencode_m h).1)), .int .i64 ((rencode_m h).2)]) ∧ Below w.heap.size w w') := by
  go_enter Tryd.func15, Tryd.ntmps15
  have hm00 := Mm.nil none (fun _ => True) w
  have hm0 := hm00
  refine wp_seq_k (fun K1 hK1 => ?_)
  refine wp_region_lit ?_
  refine lst rfl (m_alloc (c := #[.string (tx h.name), .int .i64 (h.mode), .int .i64 (h.uid), .int .i64 (h.gid), .int .i64 (h.size), .int .i64 (h.time), .int .u8 ((h.flag.toNat : Nat) : Int), .string (tx h.link), .string (tx h.pfx)]) (T := 23) hm0 1 rfl (run_box rfl rfl) (fun g4 w2 (hm3 : Mm none (fun _ => True) w w2 [.blk g4 #[.string (tx h.name), .int .i64 (h.mode), .int .i64 (h.uid), .int .i64 (h.gid), .int .i64 (h.size), .int .i64 (h.time), .int .u8 ((h.flag.toNat : Nat) : Int), .string (tx h.link), .string (tx h.pfx)] 23]) => ?_))
  simp only [nz1, nz2, nz3]
  refine lvw 2 (.string (tx ([]))) rfl rfl (run_as rfl rfl) ?_
  simp only [nz1, nz2, nz3]
  refine lvw 3 (.int .i64 0) rfl rfl (run_as rfl rfl) ?_
  simp only [nz1, nz2, nz3]
  refine wpList_nil ?_
  refine then_n (hK1 _ _ ?_)
  refine wp_seq_k (fun K5 hK5 => ?_)
  refine wp_region_lit ?_
  refine lvw 21 (.pointer (some ⟨g4, 0, none⟩)) rfl rfl (r_fa23_0 g4 0 rfl rfl) ?_
  simp only [nz1, nz2, nz3]
  refine lvw 22 (.string (tx h.name)) rfl rfl (r_load (hm3.at 0 rfl) rfl Tryd.underlying9 rfl rfl rfl) ?_
  simp only [nz1, nz2, nz3]
  refine lst rfl (m_call hm3 23 (.tuple #[.string (tx ((rfield_m h.name 100).1)), .bool ((rfield_m h.name 100).2)]) rfl (run_rfield rfl rfl rfl) (rfield_any h.name 100  _  (by first | omega | assumption | (simp; done) | (simp; omega) | (simp only [List.length_append, List.length_cons, List.length_nil]; omega) | (simp only [List.length_append, List.length_cons, List.length_nil] at *; omega) | decide)) (fun w6 (hm7 : Mm none (fun _ => True) w w6 [.blk g4 #[.string (tx h.name), .int .i64 (h.mode), .int .i64 (h.uid), .int .i64 (h.gid), .int .i64 (h.size), .int .i64 (h.time), .int .u8 ((h.flag.toNat : Nat) : Int), .string (tx h.link), .string (tx h.pfx)] 23]) => ?_))
  have hf8 : (((rfield_m h.name 100).1.length : Nat) : Int) ≤ 100 := rfield_len h.name 100 (by omega)
  simp only [nz1, nz2, nz3]
  refine lvw 20 (.tuple #[.string (tx ((rfield_m h.name 100).1)), .bool ((rfield_m h.name 100).2)]) rfl rfl (run_mv rfl rfl) ?_
  simp only [nz1, nz2, nz3]
  refine lvw 24 (.string (tx ((rfield_m h.name 100).1))) rfl rfl (run_ex rfl rfl rfl) ?_
  simp only [nz1, nz2, nz3]
  refine lvw 25 (.bool ((rfield_m h.name 100).2)) rfl rfl (run_ex rfl rfl rfl) ?_
  simp only [nz1, nz2, nz3]
  refine lvw 4 (.string (tx ((rfield_m h.name 100).1))) rfl rfl (run_as rfl rfl) ?_
  simp only [nz1, nz2, nz3]
  refine lvw 5 (.bool ((rfield_m h.name 100).2)) rfl rfl (run_as rfl rfl) ?_
  simp only [nz1, nz2, nz3]
  refine wpList_nil ?_
  refine then_n (hK5 _ _ ?_)
  refine wp_seq_k (fun K9 hK9 => ?_)
  refine wp_region_lit ?_
  refine lvw 27 (.pointer (some ⟨g4, 7, none⟩)) rfl rfl (r_fa23_7 g4 0 rfl rfl) ?_
  simp only [nz1, nz2, nz3]
  refine lvw 28 (.string (tx h.link)) rfl rfl (r_load (hm7.at 0 rfl) rfl Tryd.underlying9 rfl rfl rfl) ?_
  simp only [nz1, nz2, nz3]
  refine lst rfl (m_call hm7 29 (.tuple #[.string (tx ((rfield_m h.link 100).1)), .bool ((rfield_m h.link 100).2)]) rfl (run_rfield rfl rfl rfl) (rfield_any h.link 100  _  (by first | omega | assumption | (simp; done) | (simp; omega) | (simp only [List.length_append, List.length_cons, List.length_nil]; omega) | (simp only [List.length_append, List.length_cons, List.length_nil] at *; omega) | decide)) (fun w10 (hm11 : Mm none (fun _ => True) w w10 [.blk g4 #[.string (tx h.name), .int .i64 (h.mode), .int .i64 (h.uid), .int .i64 (h.gid), .int .i64 (h.size), .int .i64 (h.time), .int .u8 ((h.flag.toNat : Nat) : Int), .string (tx h.link), .string (tx h.pfx)] 23]) => ?_))
  have hf12 : (((rfield_m h.link 100).1.length : Nat) : Int) ≤ 100 := rfield_len h.link 100 (by omega)
  simp only [nz1, nz2, nz3]
  refine lvw 26 (.tuple #[.string (tx ((rfield_m h.link 100).1)), .bool ((rfield_m h.link 100).2)]) rfl rfl (run_mv rfl rfl) ?_
  simp only [nz1, nz2, nz3]
  refine lvw 30 (.string (tx ((rfield_m h.link 100).1))) rfl rfl (run_ex rfl rfl rfl) ?_
  simp only [nz1, nz2, nz3]
  refine lvw 31 (.bool ((rfield_m h.link 100).2)) rfl rfl (run_ex rfl rfl rfl) ?_
  simp only [nz1, nz2, nz3]
  refine lvw 6 (.string (tx ((rfield_m h.link 100).1))) rfl rfl (run_as rfl rfl) ?_
  simp only [nz1, nz2, nz3]
  refine lvw 7 (.bool ((rfield_m h.link 100).2)) rfl rfl (run_as rfl rfl) ?_
  simp only [nz1, nz2, nz3]
  refine wpList_nil ?_
  refine then_n (hK9 _ _ ?_)
  refine wp_seq_k (fun K13 hK13 => ?_)
  refine wp_region_lit ?_
  refine lvw 33 (.pointer (some ⟨g4, 8, none⟩)) rfl rfl (r_fa23_8 g4 0 rfl rfl) ?_
  simp only [nz1, nz2, nz3]
  refine lvw 34 (.string (tx h.pfx)) rfl rfl (r_load (hm11.at 0 rfl) rfl Tryd.underlying9 rfl rfl rfl) ?_
  simp only [nz1, nz2, nz3]
  refine lst rfl (m_call hm11 35 (.tuple #[.string (tx ((rfield_m h.pfx 155).1)), .bool ((rfield_m h.pfx 155).2)]) rfl (run_rfield rfl rfl rfl) (rfield_any h.pfx 155  _  (by first | omega | assumption | (simp; done) | (simp; omega) | (simp only [List.length_append, List.length_cons, List.length_nil]; omega) | (simp only [List.length_append, List.length_cons, List.length_nil] at *; omega) | decide)) (fun w14 (hm15 : Mm none (fun _ => True) w w14 [.blk g4 #[.string (tx h.name), .int .i64 (h.mode), .int .i64 (h.uid), .int .i64 (h.gid), .int .i64 (h.size), .int .i64 (h.time), .int .u8 ((h.flag.toNat : Nat) : Int), .string (tx h.link), .string (tx h.pfx)] 23]) => ?_))
  have hf16 : (((rfield_m h.pfx 155).1.length : Nat) : Int) ≤ 155 := rfield_len h.pfx 155 (by omega)
  simp only [nz1, nz2, nz3]
  refine lvw 32 (.tuple #[.string (tx ((rfield_m h.pfx 155).1)), .bool ((rfield_m h.pfx 155).2)]) rfl rfl (run_mv rfl rfl) ?_
  simp only [nz1, nz2, nz3]
  refine lvw 36 (.string (tx ((rfield_m h.pfx 155).1))) rfl rfl (run_ex rfl rfl rfl) ?_
  simp only [nz1, nz2, nz3]
  refine lvw 37 (.bool ((rfield_m h.pfx 155).2)) rfl rfl (run_ex rfl rfl rfl) ?_
  simp only [nz1, nz2, nz3]
  refine lvw 8 (.string (tx ((rfield_m h.pfx 155).1))) rfl rfl (run_as rfl rfl) ?_
  simp only [nz1, nz2, nz3]
  refine lvw 9 (.bool ((rfield_m h.pfx 155).2)) rfl rfl (run_as rfl rfl) ?_
  simp only [nz1, nz2, nz3]
  refine wpList_nil ?_
  refine then_n (hK13 _ _ ?_)
  refine wp_seq_k (fun K17 hK17 => ?_)
  refine wp_seq_k (fun K18 hK18 => ?_)
  refine wp_region_lit ?_
  refine lvw 38 (.bool ((rfield_m h.name 100).2)) rfl rfl (run_mv rfl rfl) ?_
  simp only [nz1, nz2, nz3]
  refine lvB 39 (!((rfield_m h.name 100).2)) rfl rfl (r_not ((rfield_m h.name 100).2) rfl rfl) (fun hs19 => ?_) (fun hs19 => ?_)
  · simp only [nz1, nz2, nz3]
    refine lvw 40 (.bool true) rfl rfl (run_mv rfl rfl) ?_
    simp only [nz1, nz2, nz3]
    refine lst_skip 41 rfl rfl ?_
    simp only [nz1, nz2, nz3]
    refine lst_skip 42 rfl rfl ?_
    simp only [nz1, nz2, nz3]
    refine lvw 43 (.bool true) rfl rfl (run_pick rfl rfl rfl) ?_
    simp only [nz1, nz2, nz3]
    refine lvw 44 (.bool true) rfl rfl (run_mv rfl rfl) ?_
    simp only [nz1, nz2, nz3]
    refine lst_skip 45 rfl rfl ?_
    simp only [nz1, nz2, nz3]
    refine lst_skip 46 rfl rfl ?_
    simp only [nz1, nz2, nz3]
    refine lvw 47 (.bool true) rfl rfl (run_pick rfl rfl rfl) ?_
    simp only [nz1, nz2, nz3]
    refine wpList_nil ?_
    refine then_n (hK18 _ _ ?_)
    refine cond_t rfl ?_
    refine wp_seq_k (fun K20 hK20 => ?_)
    refine wp_region_lit ?_
    refine lvw 2 (.string (tx ([]))) rfl rfl (run_as rfl rfl) ?_
    simp only [nz1, nz2, nz3]
    refine lvw 3 (.int .i64 3) rfl rfl (run_as rfl rfl) ?_
    simp only [nz1, nz2, nz3]
    refine wpList_nil ?_
    refine then_n (hK20 _ _ ?_)
    refine wp_ret ?_
    refine then_r ?_
    have he21 : rencode_m h = (([]), 3) := (show rencode_m h = (([]), 3) from by unfold rencode_m; rw [if_pos hs19] <;> rfl)
    exact ⟨rfl, .tuple #[.string (tx ([])), .int .i64 3], res_tt rfl rfl rfl, ⟨by (rw [he21]; try rfl), hm15.below⟩⟩
  simp only [nz1, nz2, nz3]
  refine lvw 40 (.bool false) rfl rfl (run_mv rfl rfl) ?_
  simp only [nz1, nz2, nz3]
  refine lvw 41 (.bool ((rfield_m h.link 100).2)) rfl rfl (run_mv rfl rfl) ?_
  simp only [nz1, nz2, nz3]
  refine lvB 42 (!((rfield_m h.link 100).2)) rfl rfl (r_not ((rfield_m h.link 100).2) rfl rfl) (fun hs22 => ?_) (fun hs22 => ?_)
  · simp only [nz1, nz2, nz3]
    refine lvw 43 (.bool true) rfl rfl (run_pickf rfl rfl rfl) ?_
    simp only [nz1, nz2, nz3]
    refine lvw 44 (.bool true) rfl rfl (run_mv rfl rfl) ?_
    simp only [nz1, nz2, nz3]
    refine lst_skip 45 rfl rfl ?_
    simp only [nz1, nz2, nz3]
    refine lst_skip 46 rfl rfl ?_
    simp only [nz1, nz2, nz3]
    refine lvw 47 (.bool true) rfl rfl (run_pick rfl rfl rfl) ?_
    simp only [nz1, nz2, nz3]
    refine wpList_nil ?_
    refine then_n (hK18 _ _ ?_)
    refine cond_t rfl ?_
    refine wp_seq_k (fun K23 hK23 => ?_)
    refine wp_region_lit ?_
    refine lvw 2 (.string (tx ([]))) rfl rfl (run_as rfl rfl) ?_
    simp only [nz1, nz2, nz3]
    refine lvw 3 (.int .i64 3) rfl rfl (run_as rfl rfl) ?_
    simp only [nz1, nz2, nz3]
    refine wpList_nil ?_
    refine then_n (hK23 _ _ ?_)
    refine wp_ret ?_
    refine then_r ?_
    have he24 : rencode_m h = (([]), 3) := (show rencode_m h = (([]), 3) from by unfold rencode_m; rw [if_neg hs19, if_pos hs22] <;> rfl)
    exact ⟨rfl, .tuple #[.string (tx ([])), .int .i64 3], res_tt rfl rfl rfl, ⟨by (rw [he24]; try rfl), hm15.below⟩⟩
  simp only [nz1, nz2, nz3]
  refine lvw 43 (.bool false) rfl rfl (run_pickf rfl rfl rfl) ?_
  simp only [nz1, nz2, nz3]
  refine lvw 44 (.bool false) rfl rfl (run_mv rfl rfl) ?_
  simp only [nz1, nz2, nz3]
  refine lvw 45 (.bool ((rfield_m h.pfx 155).2)) rfl rfl (run_mv rfl rfl) ?_
  simp only [nz1, nz2, nz3]
  refine lvw 46 (.bool (!((rfield_m h.pfx 155).2))) rfl rfl (r_not ((rfield_m h.pfx 155).2) rfl rfl) ?_
  simp only [nz1, nz2, nz3]
  refine lvw 47 (.bool (!((rfield_m h.pfx 155).2))) rfl rfl (run_pickf rfl rfl rfl) ?_
  simp only [nz1, nz2, nz3]
  refine wpList_nil ?_
  refine then_n (hK18 _ _ ?_)
  refine cond_B (!((rfield_m h.pfx 155).2)) rfl (fun hc25 => ?_) (fun hc25 => ?_)
  · refine wp_seq_k (fun K26 hK26 => ?_)
    refine wp_region_lit ?_
    refine lvw 2 (.string (tx ([]))) rfl rfl (run_as rfl rfl) ?_
    simp only [nz1, nz2, nz3]
    refine lvw 3 (.int .i64 3) rfl rfl (run_as rfl rfl) ?_
    simp only [nz1, nz2, nz3]
    refine wpList_nil ?_
    refine then_n (hK26 _ _ ?_)
    refine wp_ret ?_
    refine then_r ?_
    have he27 : rencode_m h = (([]), 3) := (show rencode_m h = (([]), 3) from by unfold rencode_m; rw [if_neg hs19, if_neg hs22, if_pos hc25] <;> rfl)
    exact ⟨rfl, .tuple #[.string (tx ([])), .int .i64 3], res_tt rfl rfl rfl, ⟨by (rw [he27]; try rfl), hm15.below⟩⟩
  refine wp_skip ?_
  refine then_n (hK17 _ _ ?_)
  refine wp_seq_k (fun K28 hK28 => ?_)
  refine wp_region_lit ?_
  refine lvw 49 (.agg #[.string (tx h.name), .int .i64 (h.mode), .int .i64 (h.uid), .int .i64 (h.gid), .int .i64 (h.size), .int .i64 (h.time), .int .u8 ((h.flag.toNat : Nat) : Int), .string (tx h.link), .string (tx h.pfx)]) rfl rfl (r_whole (hm15.at 0 rfl) Tryd.underlying23 rfl (by exact sz_23) rfl rfl) ?_
  simp only [nz1, nz2, nz3]
  refine lst rfl (m_call hm15 50 (.tuple #[.agg #[.string (tx (((rnums_m h).1).i0)), .string (tx (((rnums_m h).1).i1)), .string (tx (((rnums_m h).1).i2)), .string (tx (((rnums_m h).1).i3)), .string (tx (((rnums_m h).1).i4))], .int .i64 ((rnums_m h).2)]) rfl (run_rnums rfl rfl) (rnums_any h  _  (by first | omega | assumption | (simp; done) | (simp; omega) | (simp only [List.length_append, List.length_cons, List.length_nil]; omega) | (simp only [List.length_append, List.length_cons, List.length_nil] at *; omega) | decide) (by first | omega | assumption | (simp; done) | (simp; omega) | (simp only [List.length_append, List.length_cons, List.length_nil]; omega) | (simp only [List.length_append, List.length_cons, List.length_nil] at *; omega) | decide) (by first | omega | assumption | (simp; done) | (simp; omega) | (simp only [List.length_append, List.length_cons, List.length_nil]; omega) | (simp only [List.length_append, List.length_cons, List.length_nil] at *; omega) | decide) (by first | omega | assumption | (simp; done) | (simp; omega) | (simp only [List.length_append, List.length_cons, List.length_nil]; omega) | (simp only [List.length_append, List.length_cons, List.length_nil] at *; omega) | decide) (by first | omega | assumption | (simp; done) | (simp; omega) | (simp only [List.length_append, List.length_cons, List.length_nil]; omega) | (simp only [List.length_append, List.length_cons, List.length_nil] at *; omega) | decide) (by first | omega | assumption | (simp; done) | (simp; omega) | (simp only [List.length_append, List.length_cons, List.length_nil]; omega) | (simp only [List.length_append, List.length_cons, List.length_nil] at *; omega) | decide) (by first | omega | assumption | (simp; done) | (simp; omega) | (simp only [List.length_append, List.length_cons, List.length_nil]; omega) | (simp only [List.length_append, List.length_cons, List.length_nil] at *; omega) | decide) (by first | omega | assumption | (simp; done) | (simp; omega) | (simp only [List.length_append, List.length_cons, List.length_nil]; omega) | (simp only [List.length_append, List.length_cons, List.length_nil] at *; omega) | decide) (by first | omega | assumption | (simp; done) | (simp; omega) | (simp only [List.length_append, List.length_cons, List.length_nil]; omega) | (simp only [List.length_append, List.length_cons, List.length_nil] at *; omega) | decide) (by first | omega | assumption | (simp; done) | (simp; omega) | (simp only [List.length_append, List.length_cons, List.length_nil]; omega) | (simp only [List.length_append, List.length_cons, List.length_nil] at *; omega) | decide)) (fun w29 (hm30 : Mm none (fun _ => True) w w29 [.blk g4 #[.string (tx h.name), .int .i64 (h.mode), .int .i64 (h.uid), .int .i64 (h.gid), .int .i64 (h.size), .int .i64 (h.time), .int .u8 ((h.flag.toNat : Nat) : Int), .string (tx h.link), .string (tx h.pfx)] 23]) => ?_))
  have hf31 : (rnums_m h).1.i0.length ≤ 12 ∧ (rnums_m h).1.i1.length ≤ 12 ∧ (rnums_m h).1.i2.length ≤ 12 ∧ (rnums_m h).1.i3.length ≤ 12 ∧ (rnums_m h).1.i4.length ≤ 12 := rnums_len h
  simp only [nz1, nz2, nz3]
  refine lvw 48 (.tuple #[.agg #[.string (tx (((rnums_m h).1).i0)), .string (tx (((rnums_m h).1).i1)), .string (tx (((rnums_m h).1).i2)), .string (tx (((rnums_m h).1).i3)), .string (tx (((rnums_m h).1).i4))], .int .i64 ((rnums_m h).2)]) rfl rfl (run_mv rfl rfl) ?_
  simp only [nz1, nz2, nz3]
  refine lvw 51 (.agg #[.string (tx (((rnums_m h).1).i0)), .string (tx (((rnums_m h).1).i1)), .string (tx (((rnums_m h).1).i2)), .string (tx (((rnums_m h).1).i3)), .string (tx (((rnums_m h).1).i4))]) rfl rfl (run_ex rfl rfl rfl) ?_
  simp only [nz1, nz2, nz3]
  refine lvw 52 (.int .i64 ((rnums_m h).2)) rfl rfl (run_ex rfl rfl rfl) ?_
  simp only [nz1, nz2, nz3]
  refine lst rfl (m_alloc (c := #[.string (tx ([])), .string (tx ([])), .string (tx ([])), .string (tx ([])), .string (tx ([]))]) (T := 56) hm30 10 rfl (by unfold execOp; go_simp; try rfl) (fun g34 w32 (hm33 : Mm none (fun _ => True) w w32 [.blk g4 #[.string (tx h.name), .int .i64 (h.mode), .int .i64 (h.uid), .int .i64 (h.gid), .int .i64 (h.size), .int .i64 (h.time), .int .u8 ((h.flag.toNat : Nat) : Int), .string (tx h.link), .string (tx h.pfx)] 23, .blk g34 #[.string (tx ([])), .string (tx ([])), .string (tx ([])), .string (tx ([])), .string (tx ([]))] 56]) => ?_))
  simp only [nz1, nz2, nz3]
  refine lst rfl (m_store 1 56 _ _ 0 (.agg #[.string (tx (((rnums_m h).1).i0)), .string (tx (((rnums_m h).1).i1)), .string (tx (((rnums_m h).1).i2)), .string (tx (((rnums_m h).1).i3)), .string (tx (((rnums_m h).1).i4))]) (old := #[.string (tx ([])), .string (tx ([])), .string (tx ([])), .string (tx ([])), .string (tx ([]))]) (new := #[.string (tx (((rnums_m h).1).i0)), .string (tx (((rnums_m h).1).i1)), .string (tx (((rnums_m h).1).i2)), .string (tx (((rnums_m h).1).i3)), .string (tx (((rnums_m h).1).i4))]) hm33 rfl rfl rfl rfl rfl (by exact sz_56) (show 0 + 5 ≤ 5 from by decide) (by simp [Value.cells, Value.oneCell']) rfl (fun w35 (hm36 : Mm none (fun _ => True) w w35 [.blk g4 #[.string (tx h.name), .int .i64 (h.mode), .int .i64 (h.uid), .int .i64 (h.gid), .int .i64 (h.size), .int .i64 (h.time), .int .u8 ((h.flag.toNat : Nat) : Int), .string (tx h.link), .string (tx h.pfx)] 23, .blk g34 #[.string (tx (((rnums_m h).1).i0)), .string (tx (((rnums_m h).1).i1)), .string (tx (((rnums_m h).1).i2)), .string (tx (((rnums_m h).1).i3)), .string (tx (((rnums_m h).1).i4))] 56]) => ?_))
  refine lvw 11 (.int .i64 ((rnums_m h).2)) rfl rfl (run_as rfl rfl) ?_
  simp only [nz1, nz2, nz3]
  refine wpList_nil ?_
  refine then_n (hK28 _ _ ?_)
  refine wp_seq_k (fun K37 hK37 => ?_)
  refine wp_seq_k (fun K38 hK38 => ?_)
  refine wp_region_lit ?_
  refine lvw 53 (.int .i64 ((rnums_m h).2)) rfl rfl (run_mv rfl rfl) ?_
  simp only [nz1, nz2, nz3]
  refine lvw 54 (.bool (decide (¬ (rnums_m h).2 = 0))) rfl rfl (z_neq ((rnums_m h).2) 0 rfl rfl rfl) ?_
  simp only [nz1, nz2, nz3]
  refine wpList_nil ?_
  refine then_n (hK38 _ _ ?_)
  refine cond_d (¬ (rnums_m h).2 = 0) rfl (fun hc39 => ?_) (fun hc39 => ?_)
  · refine wp_seq_k (fun K40 hK40 => ?_)
    refine wp_region_lit ?_
    refine lvw 55 (.int .i64 ((rnums_m h).2)) rfl rfl (run_mv rfl rfl) ?_
    simp only [nz1, nz2, nz3]
    refine lvw 2 (.string (tx ([]))) rfl rfl (run_as rfl rfl) ?_
    simp only [nz1, nz2, nz3]
    refine lvw 3 (.int .i64 ((rnums_m h).2)) rfl rfl (run_as rfl rfl) ?_
    simp only [nz1, nz2, nz3]
    refine wpList_nil ?_
    refine then_n (hK40 _ _ ?_)
    refine wp_ret ?_
    refine then_r ?_
    have he41 : rencode_m h = (([]), (rnums_m h).2) := (show rencode_m h = (([]), (rnums_m h).2) from by unfold rencode_m; rw [if_neg hs19, if_neg hs22, if_neg hc25, if_pos hc39] <;> rfl)
    exact ⟨rfl, .tuple #[.string (tx ([])), .int .i64 ((rnums_m h).2)], res_tt rfl rfl rfl, ⟨by (rw [he41]; try rfl), hm36.below⟩⟩
  refine wp_skip ?_
  refine then_n (hK37 _ _ ?_)
  refine wp_seq_k (fun K42 hK42 => ?_)
  refine wp_region_lit ?_
  refine lvw 56 (.string (tx ((rfield_m h.name 100).1))) rfl rfl (run_mv rfl rfl) ?_
  simp only [nz1, nz2, nz3]
  refine lvw 57 (.pointer (some ⟨g34, 0, none⟩)) rfl rfl (Sx.r_ix g34 0 (by decide) Tryd.underlying56 sz_9 rfl rfl rfl) ?_
  simp only [nz1, nz2, nz3]
  refine lvw 58 (.string (tx (((rnums_m h).1).i0))) rfl rfl (r_load (hm36.at 1 rfl) rfl Tryd.underlying9 rfl rfl rfl) ?_
  simp only [nz1, nz2, nz3]
  refine lvw 59 (.string (tx ((rfield_m h.name 100).1 ++ ((rnums_m h).1).i0))) rfl rfl (t_cat ((rfield_m h.name 100).1) (((rnums_m h).1).i0) (by first | omega | (simp; omega) | (simp only [List.length_append, List.length_cons, List.length_nil] at *; omega)) rfl rfl rfl) ?_
  simp only [nz1, nz2, nz3]
  refine lvw 60 (.pointer (some ⟨g34, 1, none⟩)) rfl rfl (Sx.r_ix g34 1 (by decide) Tryd.underlying56 sz_9 rfl rfl rfl) ?_
  simp only [nz1, nz2, nz3]
  refine lvw 61 (.string (tx (((rnums_m h).1).i1))) rfl rfl (r_load (hm36.at 1 rfl) rfl Tryd.underlying9 rfl rfl rfl) ?_
  simp only [nz1, nz2, nz3]
  refine lvw 62 (.string (tx (((rfield_m h.name 100).1 ++ ((rnums_m h).1).i0) ++ ((rnums_m h).1).i1))) rfl rfl (t_cat ((rfield_m h.name 100).1 ++ ((rnums_m h).1).i0) (((rnums_m h).1).i1) (by first | omega | (simp; omega) | (simp only [List.length_append, List.length_cons, List.length_nil] at *; omega)) rfl rfl rfl) ?_
  simp only [nz1, nz2, nz3]
  refine lvw 63 (.pointer (some ⟨g34, 2, none⟩)) rfl rfl (Sx.r_ix g34 2 (by decide) Tryd.underlying56 sz_9 rfl rfl rfl) ?_
  simp only [nz1, nz2, nz3]
  refine lvw 64 (.string (tx (((rnums_m h).1).i2))) rfl rfl (r_load (hm36.at 1 rfl) rfl Tryd.underlying9 rfl rfl rfl) ?_
  simp only [nz1, nz2, nz3]
  refine lvw 65 (.string (tx ((((rfield_m h.name 100).1 ++ ((rnums_m h).1).i0) ++ ((rnums_m h).1).i1) ++ ((rnums_m h).1).i2))) rfl rfl (t_cat (((rfield_m h.name 100).1 ++ ((rnums_m h).1).i0) ++ ((rnums_m h).1).i1) (((rnums_m h).1).i2) (by first | omega | (simp; omega) | (simp only [List.length_append, List.length_cons, List.length_nil] at *; omega)) rfl rfl rfl) ?_
  simp only [nz1, nz2, nz3]
  refine lvw 66 (.pointer (some ⟨g34, 3, none⟩)) rfl rfl (Sx.r_ix g34 3 (by decide) Tryd.underlying56 sz_9 rfl rfl rfl) ?_
  simp only [nz1, nz2, nz3]
  refine lvw 67 (.string (tx (((rnums_m h).1).i3))) rfl rfl (r_load (hm36.at 1 rfl) rfl Tryd.underlying9 rfl rfl rfl) ?_
  simp only [nz1, nz2, nz3]
  refine lvw 68 (.string (tx (((((rfield_m h.name 100).1 ++ ((rnums_m h).1).i0) ++ ((rnums_m h).1).i1) ++ ((rnums_m h).1).i2) ++ ((rnums_m h).1).i3))) rfl rfl (t_cat ((((rfield_m h.name 100).1 ++ ((rnums_m h).1).i0) ++ ((rnums_m h).1).i1) ++ ((rnums_m h).1).i2) (((rnums_m h).1).i3) (by first | omega | (simp; omega) | (simp only [List.length_append, List.length_cons, List.length_nil] at *; omega)) rfl rfl rfl) ?_
  simp only [nz1, nz2, nz3]
  refine lvw 69 (.pointer (some ⟨g34, 4, none⟩)) rfl rfl (Sx.r_ix g34 4 (by decide) Tryd.underlying56 sz_9 rfl rfl rfl) ?_
  simp only [nz1, nz2, nz3]
  refine lvw 70 (.string (tx (((rnums_m h).1).i4))) rfl rfl (r_load (hm36.at 1 rfl) rfl Tryd.underlying9 rfl rfl rfl) ?_
  simp only [nz1, nz2, nz3]
  refine lvw 71 (.string (tx ((((((rfield_m h.name 100).1 ++ ((rnums_m h).1).i0) ++ ((rnums_m h).1).i1) ++ ((rnums_m h).1).i2) ++ ((rnums_m h).1).i3) ++ ((rnums_m h).1).i4))) rfl rfl (t_cat (((((rfield_m h.name 100).1 ++ ((rnums_m h).1).i0) ++ ((rnums_m h).1).i1) ++ ((rnums_m h).1).i2) ++ ((rnums_m h).1).i3) (((rnums_m h).1).i4) (by first | omega | (simp; omega) | (simp only [List.length_append, List.length_cons, List.length_nil] at *; omega)) rfl rfl rfl) ?_
  simp only [nz1, nz2, nz3]
  refine lvw 12 (.string (tx ((((((rfield_m h.name 100).1 ++ ((rnums_m h).1).i0) ++ ((rnums_m h).1).i1) ++ ((rnums_m h).1).i2) ++ ((rnums_m h).1).i3) ++ ((rnums_m h).1).i4))) rfl rfl (run_as rfl rfl) ?_
  simp only [nz1, nz2, nz3]
  refine wpList_nil ?_
  refine then_n (hK42 _ _ ?_)
  refine wp_seq_k (fun K43 hK43 => ?_)
  refine wp_region_lit ?_
  refine lvw 72 (.pointer (some ⟨g4, 6, none⟩)) rfl rfl (r_fa23_6 g4 0 rfl rfl) ?_
  simp only [nz1, nz2, nz3]
  refine lvw 73 (.int .u8 ((h.flag.toNat : Nat) : Int)) rfl rfl (r_load (hm36.at 0 rfl) rfl Tryd.underlying5 rfl rfl rfl) ?_
  simp only [nz1, nz2, nz3]
  refine lst rfl (m_make (c := #[.int .u8 ((h.flag.toNat : Nat) : Int)]) (T := 5) (fun g => .slice (some ⟨g, 0, none⟩) 1 1) hm36 74 rfl (by unfold execOp; go_simp; try rfl) (fun g46 w44 (hm45 : Mm none (fun _ => True) w w44 [.blk g4 #[.string (tx h.name), .int .i64 (h.mode), .int .i64 (h.uid), .int .i64 (h.gid), .int .i64 (h.size), .int .i64 (h.time), .int .u8 ((h.flag.toNat : Nat) : Int), .string (tx h.link), .string (tx h.pfx)] 23, .blk g34 #[.string (tx (((rnums_m h).1).i0)), .string (tx (((rnums_m h).1).i1)), .string (tx (((rnums_m h).1).i2)), .string (tx (((rnums_m h).1).i3)), .string (tx (((rnums_m h).1).i4))] 56, .blk g46 #[.int .u8 ((h.flag.toNat : Nat) : Int)] 5]) => ?_))
  simp only [nz1, nz2, nz3]
  refine lvw 75 (.string (tx ([h.flag] : List UInt8))) rfl rfl (r_stringR ([h.flag]) (by have h := Rs.blk (enc := eB) (l := ([h.flag] : List UInt8)) (hm45.at 2 rfl) rfl rfl eB_len (Nat.le_refl _); unfold Rs at h; rw [eB_map] at h; exact h) Tryd.underlying34 Tryd.underlying5 Tryd.underlying9 rfl rfl) ?_
  simp only [nz1, nz2, nz3]
  refine lvw 76 (.string (tx ((rfield_m h.link 100).1))) rfl rfl (run_mv rfl rfl) ?_
  simp only [nz1, nz2, nz3]
  refine lvw 77 (.string (tx (([h.flag] : List UInt8) ++ (rfield_m h.link 100).1))) rfl rfl (t_cat ([h.flag] : List UInt8) ((rfield_m h.link 100).1) (by first | omega | (simp; omega) | (simp only [List.length_append, List.length_cons, List.length_nil] at *; omega)) rfl rfl rfl) ?_
  simp only [nz1, nz2, nz3]
  refine lvw 78 (.string (tx ((([h.flag] : List UInt8) ++ (rfield_m h.link 100).1) ++ [117, 115, 116, 97, 114, 0, 48, 48]))) rfl rfl (t_cat (([h.flag] : List UInt8) ++ (rfield_m h.link 100).1) ([117, 115, 116, 97, 114, 0, 48, 48]) (by first | omega | (simp; omega) | (simp only [List.length_append, List.length_cons, List.length_nil] at *; omega)) rfl rfl rfl) ?_
  simp only [nz1, nz2, nz3]
  refine lvw 13 (.string (tx ((([h.flag] : List UInt8) ++ (rfield_m h.link 100).1) ++ [117, 115, 116, 97, 114, 0, 48, 48]))) rfl rfl (run_as rfl rfl) ?_
  simp only [nz1, nz2, nz3]
  refine wpList_nil ?_
  refine then_n (hK43 _ _ ?_)
  refine wp_seq_k (fun K47 hK47 => ?_)
  refine wp_region_lit ?_
  refine lst rfl (m_call hm45 80 (.tuple #[.string (tx ((rfield_m ([]) 80).1)), .bool ((rfield_m ([]) 80).2)]) rfl (run_rfield rfl rfl rfl) (rfield_any ([]) 80  _  (by first | omega | assumption | (simp; done) | (simp; omega) | (simp only [List.length_append, List.length_cons, List.length_nil]; omega) | (simp only [List.length_append, List.length_cons, List.length_nil] at *; omega) | decide)) (fun w48 (hm49 : Mm none (fun _ => True) w w48 [.blk g4 #[.string (tx h.name), .int .i64 (h.mode), .int .i64 (h.uid), .int .i64 (h.gid), .int .i64 (h.size), .int .i64 (h.time), .int .u8 ((h.flag.toNat : Nat) : Int), .string (tx h.link), .string (tx h.pfx)] 23, .blk g34 #[.string (tx (((rnums_m h).1).i0)), .string (tx (((rnums_m h).1).i1)), .string (tx (((rnums_m h).1).i2)), .string (tx (((rnums_m h).1).i3)), .string (tx (((rnums_m h).1).i4))] 56, .blk g46 #[.int .u8 ((h.flag.toNat : Nat) : Int)] 5]) => ?_))
  have hf50 : (((rfield_m ([]) 80).1.length : Nat) : Int) ≤ 80 := rfield_len ([]) 80 (by omega)
  simp only [nz1, nz2, nz3]
  refine lvw 79 (.tuple #[.string (tx ((rfield_m ([]) 80).1)), .bool ((rfield_m ([]) 80).2)]) rfl rfl (run_mv rfl rfl) ?_
  simp only [nz1, nz2, nz3]
  refine lvw 81 (.string (tx ((rfield_m ([]) 80).1))) rfl rfl (run_ex rfl rfl rfl) ?_
  simp only [nz1, nz2, nz3]
  refine lvw 82 (.bool ((rfield_m ([]) 80).2)) rfl rfl (run_ex rfl rfl rfl) ?_
  simp only [nz1, nz2, nz3]
  refine lvw 14 (.string (tx ((rfield_m ([]) 80).1))) rfl rfl (run_as rfl rfl) ?_
  simp only [nz1, nz2, nz3]
  refine lvw 15 (.bool ((rfield_m ([]) 80).2)) rfl rfl (run_as rfl rfl) ?_
  simp only [nz1, nz2, nz3]
  refine wpList_nil ?_
  refine then_n (hK47 _ _ ?_)
  refine wp_seq_k (fun K51 hK51 => ?_)
  refine wp_region_lit ?_
  refine lst rfl (m_call hm49 84 (.tuple #[.string (tx ((rfield_m ([]) 12).1)), .bool ((rfield_m ([]) 12).2)]) rfl (run_rfield rfl rfl rfl) (rfield_any ([]) 12  _  (by first | omega | assumption | (simp; done) | (simp; omega) | (simp only [List.length_append, List.length_cons, List.length_nil]; omega) | (simp only [List.length_append, List.length_cons, List.length_nil] at *; omega) | decide)) (fun w52 (hm53 : Mm none (fun _ => True) w w52 [.blk g4 #[.string (tx h.name), .int .i64 (h.mode), .int .i64 (h.uid), .int .i64 (h.gid), .int .i64 (h.size), .int .i64 (h.time), .int .u8 ((h.flag.toNat : Nat) : Int), .string (tx h.link), .string (tx h.pfx)] 23, .blk g34 #[.string (tx (((rnums_m h).1).i0)), .string (tx (((rnums_m h).1).i1)), .string (tx (((rnums_m h).1).i2)), .string (tx (((rnums_m h).1).i3)), .string (tx (((rnums_m h).1).i4))] 56, .blk g46 #[.int .u8 ((h.flag.toNat : Nat) : Int)] 5]) => ?_))
  have hf54 : (((rfield_m ([]) 12).1.length : Nat) : Int) ≤ 12 := rfield_len ([]) 12 (by omega)
  simp only [nz1, nz2, nz3]
  refine lvw 83 (.tuple #[.string (tx ((rfield_m ([]) 12).1)), .bool ((rfield_m ([]) 12).2)]) rfl rfl (run_mv rfl rfl) ?_
  simp only [nz1, nz2, nz3]
  refine lvw 85 (.string (tx ((rfield_m ([]) 12).1))) rfl rfl (run_ex rfl rfl rfl) ?_
  simp only [nz1, nz2, nz3]
  refine lvw 86 (.bool ((rfield_m ([]) 12).2)) rfl rfl (run_ex rfl rfl rfl) ?_
  simp only [nz1, nz2, nz3]
  refine lvw 16 (.string (tx ((rfield_m ([]) 12).1))) rfl rfl (run_as rfl rfl) ?_
  simp only [nz1, nz2, nz3]
  refine lvw 17 (.bool ((rfield_m ([]) 12).2)) rfl rfl (run_as rfl rfl) ?_
  simp only [nz1, nz2, nz3]
  refine wpList_nil ?_
  refine then_n (hK51 _ _ ?_)
  refine wp_seq_k (fun K55 hK55 => ?_)
  refine wp_region_lit ?_
  refine lvw 87 (.string (tx ((([h.flag] : List UInt8) ++ (rfield_m h.link 100).1) ++ [117, 115, 116, 97, 114, 0, 48, 48]))) rfl rfl (run_mv rfl rfl) ?_
  simp only [nz1, nz2, nz3]
  refine lvw 88 (.string (tx ((rfield_m ([]) 80).1))) rfl rfl (run_mv rfl rfl) ?_
  simp only [nz1, nz2, nz3]
  refine lvw 89 (.string (tx (((([h.flag] : List UInt8) ++ (rfield_m h.link 100).1) ++ [117, 115, 116, 97, 114, 0, 48, 48]) ++ (rfield_m ([]) 80).1))) rfl rfl (t_cat ((([h.flag] : List UInt8) ++ (rfield_m h.link 100).1) ++ [117, 115, 116, 97, 114, 0, 48, 48]) ((rfield_m ([]) 80).1) (by first | omega | (simp; omega) | (simp only [List.length_append, List.length_cons, List.length_nil] at *; omega)) rfl rfl rfl) ?_
  simp only [nz1, nz2, nz3]
  refine lvw 90 (.string (tx ((rfield_m h.pfx 155).1))) rfl rfl (run_mv rfl rfl) ?_
  simp only [nz1, nz2, nz3]
  refine lvw 91 (.string (tx ((((([h.flag] : List UInt8) ++ (rfield_m h.link 100).1) ++ [117, 115, 116, 97, 114, 0, 48, 48]) ++ (rfield_m ([]) 80).1) ++ (rfield_m h.pfx 155).1))) rfl rfl (t_cat (((([h.flag] : List UInt8) ++ (rfield_m h.link 100).1) ++ [117, 115, 116, 97, 114, 0, 48, 48]) ++ (rfield_m ([]) 80).1) ((rfield_m h.pfx 155).1) (by first | omega | (simp; omega) | (simp only [List.length_append, List.length_cons, List.length_nil] at *; omega)) rfl rfl rfl) ?_
  simp only [nz1, nz2, nz3]
  refine lvw 92 (.string (tx ((rfield_m ([]) 12).1))) rfl rfl (run_mv rfl rfl) ?_
  simp only [nz1, nz2, nz3]
  refine lvw 93 (.string (tx (((((([h.flag] : List UInt8) ++ (rfield_m h.link 100).1) ++ [117, 115, 116, 97, 114, 0, 48, 48]) ++ (rfield_m ([]) 80).1) ++ (rfield_m h.pfx 155).1) ++ (rfield_m ([]) 12).1))) rfl rfl (t_cat ((((([h.flag] : List UInt8) ++ (rfield_m h.link 100).1) ++ [117, 115, 116, 97, 114, 0, 48, 48]) ++ (rfield_m ([]) 80).1) ++ (rfield_m h.pfx 155).1) ((rfield_m ([]) 12).1) (by first | omega | (simp; omega) | (simp only [List.length_append, List.length_cons, List.length_nil] at *; omega)) rfl rfl rfl) ?_
  simp only [nz1, nz2, nz3]
  refine lvw 13 (.string (tx (((((([h.flag] : List UInt8) ++ (rfield_m h.link 100).1) ++ [117, 115, 116, 97, 114, 0, 48, 48]) ++ (rfield_m ([]) 80).1) ++ (rfield_m h.pfx 155).1) ++ (rfield_m ([]) 12).1))) rfl rfl (run_as rfl rfl) ?_
  simp only [nz1, nz2, nz3]
  refine wpList_nil ?_
  refine then_n (hK55 _ _ ?_)
  refine wp_seq_k (fun K56 hK56 => ?_)
  refine wp_region_lit ?_
  refine lvw 95 (.string (tx ((((((rfield_m h.name 100).1 ++ ((rnums_m h).1).i0) ++ ((rnums_m h).1).i1) ++ ((rnums_m h).1).i2) ++ ((rnums_m h).1).i3) ++ ((rnums_m h).1).i4))) rfl rfl (run_mv rfl rfl) ?_
  simp only [nz1, nz2, nz3]
  refine lvw 96 (.string (tx (((((((rfield_m h.name 100).1 ++ ((rnums_m h).1).i0) ++ ((rnums_m h).1).i1) ++ ((rnums_m h).1).i2) ++ ((rnums_m h).1).i3) ++ ((rnums_m h).1).i4) ++ [32, 32, 32, 32, 32, 32, 32, 32]))) rfl rfl (t_cat ((((((rfield_m h.name 100).1 ++ ((rnums_m h).1).i0) ++ ((rnums_m h).1).i1) ++ ((rnums_m h).1).i2) ++ ((rnums_m h).1).i3) ++ ((rnums_m h).1).i4) ([32, 32, 32, 32, 32, 32, 32, 32]) (by first | omega | (simp; omega) | (simp only [List.length_append, List.length_cons, List.length_nil] at *; omega)) rfl rfl rfl) ?_
  simp only [nz1, nz2, nz3]
  refine lvw 97 (.string (tx (((((([h.flag] : List UInt8) ++ (rfield_m h.link 100).1) ++ [117, 115, 116, 97, 114, 0, 48, 48]) ++ (rfield_m ([]) 80).1) ++ (rfield_m h.pfx 155).1) ++ (rfield_m ([]) 12).1))) rfl rfl (run_mv rfl rfl) ?_
  simp only [nz1, nz2, nz3]
  refine lvw 98 (.string (tx ((((((((rfield_m h.name 100).1 ++ ((rnums_m h).1).i0) ++ ((rnums_m h).1).i1) ++ ((rnums_m h).1).i2) ++ ((rnums_m h).1).i3) ++ ((rnums_m h).1).i4) ++ [32, 32, 32, 32, 32, 32, 32, 32]) ++ (((((([h.flag] : List UInt8) ++ (rfield_m h.link 100).1) ++ [117, 115, 116, 97, 114, 0, 48, 48]) ++ (rfield_m ([]) 80).1) ++ (rfield_m h.pfx 155).1) ++ (rfield_m ([]) 12).1)))) rfl rfl (t_cat (((((((rfield_m h.name 100).1 ++ ((rnums_m h).1).i0) ++ ((rnums_m h).1).i1) ++ ((rnums_m h).1).i2) ++ ((rnums_m h).1).i3) ++ ((rnums_m h).1).i4) ++ [32, 32, 32, 32, 32, 32, 32, 32]) (((((([h.flag] : List UInt8) ++ (rfield_m h.link 100).1) ++ [117, 115, 116, 97, 114, 0, 48, 48]) ++ (rfield_m ([]) 80).1) ++ (rfield_m h.pfx 155).1) ++ (rfield_m ([]) 12).1) (by first | omega | (simp; omega) | (simp only [List.length_append, List.length_cons, List.length_nil] at *; omega)) rfl rfl rfl) ?_
  simp only [nz1, nz2, nz3]
  refine lst rfl (m_call hm53 99 (.int .i64 ((rsum_m ((((((((rfield_m h.name 100).1 ++ ((rnums_m h).1).i0) ++ ((rnums_m h).1).i1) ++ ((rnums_m h).1).i2) ++ ((rnums_m h).1).i3) ++ ((rnums_m h).1).i4) ++ [32, 32, 32, 32, 32, 32, 32, 32]) ++ (((((([h.flag] : List UInt8) ++ (rfield_m h.link 100).1) ++ [117, 115, 116, 97, 114, 0, 48, 48]) ++ (rfield_m ([]) 80).1) ++ (rfield_m h.pfx 155).1) ++ (rfield_m ([]) 12).1))))) rfl (run_rsum rfl rfl) (rsum_any ((((((((rfield_m h.name 100).1 ++ ((rnums_m h).1).i0) ++ ((rnums_m h).1).i1) ++ ((rnums_m h).1).i2) ++ ((rnums_m h).1).i3) ++ ((rnums_m h).1).i4) ++ [32, 32, 32, 32, 32, 32, 32, 32]) ++ (((((([h.flag] : List UInt8) ++ (rfield_m h.link 100).1) ++ [117, 115, 116, 97, 114, 0, 48, 48]) ++ (rfield_m ([]) 80).1) ++ (rfield_m h.pfx 155).1) ++ (rfield_m ([]) 12).1))  _  ) (fun w57 (hm58 : Mm none (fun _ => True) w w57 [.blk g4 #[.string (tx h.name), .int .i64 (h.mode), .int .i64 (h.uid), .int .i64 (h.gid), .int .i64 (h.size), .int .i64 (h.time), .int .u8 ((h.flag.toNat : Nat) : Int), .string (tx h.link), .string (tx h.pfx)] 23, .blk g34 #[.string (tx (((rnums_m h).1).i0)), .string (tx (((rnums_m h).1).i1)), .string (tx (((rnums_m h).1).i2)), .string (tx (((rnums_m h).1).i3)), .string (tx (((rnums_m h).1).i4))] 56, .blk g46 #[.int .u8 ((h.flag.toNat : Nat) : Int)] 5]) => ?_))
  have hf59 : 0 ≤ (rsum_m ((((((((rfield_m h.name 100).1 ++ ((rnums_m h).1).i0) ++ ((rnums_m h).1).i1) ++ ((rnums_m h).1).i2) ++ ((rnums_m h).1).i3) ++ ((rnums_m h).1).i4) ++ [32, 32, 32, 32, 32, 32, 32, 32]) ++ (((((([h.flag] : List UInt8) ++ (rfield_m h.link 100).1) ++ [117, 115, 116, 97, 114, 0, 48, 48]) ++ (rfield_m ([]) 80).1) ++ (rfield_m h.pfx 155).1) ++ (rfield_m ([]) 12).1))) ∧ (rsum_m ((((((((rfield_m h.name 100).1 ++ ((rnums_m h).1).i0) ++ ((rnums_m h).1).i1) ++ ((rnums_m h).1).i2) ++ ((rnums_m h).1).i3) ++ ((rnums_m h).1).i4) ++ [32, 32, 32, 32, 32, 32, 32, 32]) ++ (((((([h.flag] : List UInt8) ++ (rfield_m h.link 100).1) ++ [117, 115, 116, 97, 114, 0, 48, 48]) ++ (rfield_m ([]) 80).1) ++ (rfield_m h.pfx 155).1) ++ (rfield_m ([]) 12).1))) ≤ 131072 := rsum_rng ((((((((rfield_m h.name 100).1 ++ ((rnums_m h).1).i0) ++ ((rnums_m h).1).i1) ++ ((rnums_m h).1).i2) ++ ((rnums_m h).1).i3) ++ ((rnums_m h).1).i4) ++ [32, 32, 32, 32, 32, 32, 32, 32]) ++ (((((([h.flag] : List UInt8) ++ (rfield_m h.link 100).1) ++ [117, 115, 116, 97, 114, 0, 48, 48]) ++ (rfield_m ([]) 80).1) ++ (rfield_m h.pfx 155).1) ++ (rfield_m ([]) 12).1))
  simp only [nz1, nz2, nz3]
  refine lst rfl (m_call hm58 100 (.tuple #[.string (tx ((roct_m (rsum_m ((((((((rfield_m h.name 100).1 ++ ((rnums_m h).1).i0) ++ ((rnums_m h).1).i1) ++ ((rnums_m h).1).i2) ++ ((rnums_m h).1).i3) ++ ((rnums_m h).1).i4) ++ [32, 32, 32, 32, 32, 32, 32, 32]) ++ (((((([h.flag] : List UInt8) ++ (rfield_m h.link 100).1) ++ [117, 115, 116, 97, 114, 0, 48, 48]) ++ (rfield_m ([]) 80).1) ++ (rfield_m h.pfx 155).1) ++ (rfield_m ([]) 12).1))) 6).1)), .bool ((roct_m (rsum_m ((((((((rfield_m h.name 100).1 ++ ((rnums_m h).1).i0) ++ ((rnums_m h).1).i1) ++ ((rnums_m h).1).i2) ++ ((rnums_m h).1).i3) ++ ((rnums_m h).1).i4) ++ [32, 32, 32, 32, 32, 32, 32, 32]) ++ (((((([h.flag] : List UInt8) ++ (rfield_m h.link 100).1) ++ [117, 115, 116, 97, 114, 0, 48, 48]) ++ (rfield_m ([]) 80).1) ++ (rfield_m h.pfx 155).1) ++ (rfield_m ([]) 12).1))) 6).2)]) rfl (run_roct rfl rfl rfl) (roct_any (rsum_m ((((((((rfield_m h.name 100).1 ++ ((rnums_m h).1).i0) ++ ((rnums_m h).1).i1) ++ ((rnums_m h).1).i2) ++ ((rnums_m h).1).i3) ++ ((rnums_m h).1).i4) ++ [32, 32, 32, 32, 32, 32, 32, 32]) ++ (((((([h.flag] : List UInt8) ++ (rfield_m h.link 100).1) ++ [117, 115, 116, 97, 114, 0, 48, 48]) ++ (rfield_m ([]) 80).1) ++ (rfield_m h.pfx 155).1) ++ (rfield_m ([]) 12).1))) 6  _  (by first | omega | assumption | (simp; done) | (simp; omega) | (simp only [List.length_append, List.length_cons, List.length_nil]; omega) | (simp only [List.length_append, List.length_cons, List.length_nil] at *; omega) | decide)) (fun w60 (hm61 : Mm none (fun _ => True) w w60 [.blk g4 #[.string (tx h.name), .int .i64 (h.mode), .int .i64 (h.uid), .int .i64 (h.gid), .int .i64 (h.size), .int .i64 (h.time), .int .u8 ((h.flag.toNat : Nat) : Int), .string (tx h.link), .string (tx h.pfx)] 23, .blk g34 #[.string (tx (((rnums_m h).1).i0)), .string (tx (((rnums_m h).1).i1)), .string (tx (((rnums_m h).1).i2)), .string (tx (((rnums_m h).1).i3)), .string (tx (((rnums_m h).1).i4))] 56, .blk g46 #[.int .u8 ((h.flag.toNat : Nat) : Int)] 5]) => ?_))
  have hf62 : (((roct_m (rsum_m ((((((((rfield_m h.name 100).1 ++ ((rnums_m h).1).i0) ++ ((rnums_m h).1).i1) ++ ((rnums_m h).1).i2) ++ ((rnums_m h).1).i3) ++ ((rnums_m h).1).i4) ++ [32, 32, 32, 32, 32, 32, 32, 32]) ++ (((((([h.flag] : List UInt8) ++ (rfield_m h.link 100).1) ++ [117, 115, 116, 97, 114, 0, 48, 48]) ++ (rfield_m ([]) 80).1) ++ (rfield_m h.pfx 155).1) ++ (rfield_m ([]) 12).1))) 6).1.length : Nat) : Int) = 6 := roct_len (rsum_m ((((((((rfield_m h.name 100).1 ++ ((rnums_m h).1).i0) ++ ((rnums_m h).1).i1) ++ ((rnums_m h).1).i2) ++ ((rnums_m h).1).i3) ++ ((rnums_m h).1).i4) ++ [32, 32, 32, 32, 32, 32, 32, 32]) ++ (((((([h.flag] : List UInt8) ++ (rfield_m h.link 100).1) ++ [117, 115, 116, 97, 114, 0, 48, 48]) ++ (rfield_m ([]) 80).1) ++ (rfield_m h.pfx 155).1) ++ (rfield_m ([]) 12).1))) 6 (by omega) (by omega) (by omega)
  simp only [nz1, nz2, nz3]
  refine lvw 94 (.tuple #[.string (tx ((roct_m (rsum_m ((((((((rfield_m h.name 100).1 ++ ((rnums_m h).1).i0) ++ ((rnums_m h).1).i1) ++ ((rnums_m h).1).i2) ++ ((rnums_m h).1).i3) ++ ((rnums_m h).1).i4) ++ [32, 32, 32, 32, 32, 32, 32, 32]) ++ (((((([h.flag] : List UInt8) ++ (rfield_m h.link 100).1) ++ [117, 115, 116, 97, 114, 0, 48, 48]) ++ (rfield_m ([]) 80).1) ++ (rfield_m h.pfx 155).1) ++ (rfield_m ([]) 12).1))) 6).1)), .bool ((roct_m (rsum_m ((((((((rfield_m h.name 100).1 ++ ((rnums_m h).1).i0) ++ ((rnums_m h).1).i1) ++ ((rnums_m h).1).i2) ++ ((rnums_m h).1).i3) ++ ((rnums_m h).1).i4) ++ [32, 32, 32, 32, 32, 32, 32, 32]) ++ (((((([h.flag] : List UInt8) ++ (rfield_m h.link 100).1) ++ [117, 115, 116, 97, 114, 0, 48, 48]) ++ (rfield_m ([]) 80).1) ++ (rfield_m h.pfx 155).1) ++ (rfield_m ([]) 12).1))) 6).2)]) rfl rfl (run_mv rfl rfl) ?_
  simp only [nz1, nz2, nz3]
  refine lvw 101 (.string (tx ((roct_m (rsum_m ((((((((rfield_m h.name 100).1 ++ ((rnums_m h).1).i0) ++ ((rnums_m h).1).i1) ++ ((rnums_m h).1).i2) ++ ((rnums_m h).1).i3) ++ ((rnums_m h).1).i4) ++ [32, 32, 32, 32, 32, 32, 32, 32]) ++ (((((([h.flag] : List UInt8) ++ (rfield_m h.link 100).1) ++ [117, 115, 116, 97, 114, 0, 48, 48]) ++ (rfield_m ([]) 80).1) ++ (rfield_m h.pfx 155).1) ++ (rfield_m ([]) 12).1))) 6).1))) rfl rfl (run_ex rfl rfl rfl) ?_
  simp only [nz1, nz2, nz3]
  refine lvw 102 (.bool ((roct_m (rsum_m ((((((((rfield_m h.name 100).1 ++ ((rnums_m h).1).i0) ++ ((rnums_m h).1).i1) ++ ((rnums_m h).1).i2) ++ ((rnums_m h).1).i3) ++ ((rnums_m h).1).i4) ++ [32, 32, 32, 32, 32, 32, 32, 32]) ++ (((((([h.flag] : List UInt8) ++ (rfield_m h.link 100).1) ++ [117, 115, 116, 97, 114, 0, 48, 48]) ++ (rfield_m ([]) 80).1) ++ (rfield_m h.pfx 155).1) ++ (rfield_m ([]) 12).1))) 6).2)) rfl rfl (run_ex rfl rfl rfl) ?_
  simp only [nz1, nz2, nz3]
  refine lvw 18 (.string (tx ((roct_m (rsum_m ((((((((rfield_m h.name 100).1 ++ ((rnums_m h).1).i0) ++ ((rnums_m h).1).i1) ++ ((rnums_m h).1).i2) ++ ((rnums_m h).1).i3) ++ ((rnums_m h).1).i4) ++ [32, 32, 32, 32, 32, 32, 32, 32]) ++ (((((([h.flag] : List UInt8) ++ (rfield_m h.link 100).1) ++ [117, 115, 116, 97, 114, 0, 48, 48]) ++ (rfield_m ([]) 80).1) ++ (rfield_m h.pfx 155).1) ++ (rfield_m ([]) 12).1))) 6).1))) rfl rfl (run_as rfl rfl) ?_
  simp only [nz1, nz2, nz3]
  refine lvw 19 (.bool ((roct_m (rsum_m ((((((((rfield_m h.name 100).1 ++ ((rnums_m h).1).i0) ++ ((rnums_m h).1).i1) ++ ((rnums_m h).1).i2) ++ ((rnums_m h).1).i3) ++ ((rnums_m h).1).i4) ++ [32, 32, 32, 32, 32, 32, 32, 32]) ++ (((((([h.flag] : List UInt8) ++ (rfield_m h.link 100).1) ++ [117, 115, 116, 97, 114, 0, 48, 48]) ++ (rfield_m ([]) 80).1) ++ (rfield_m h.pfx 155).1) ++ (rfield_m ([]) 12).1))) 6).2)) rfl rfl (run_as rfl rfl) ?_
  simp only [nz1, nz2, nz3]
  refine wpList_nil ?_
  refine then_n (hK56 _ _ ?_)
  refine wp_seq_k (fun K63 hK63 => ?_)
  refine wp_region_lit ?_
  refine lvw 103 (.string (tx ((((((rfield_m h.name 100).1 ++ ((rnums_m h).1).i0) ++ ((rnums_m h).1).i1) ++ ((rnums_m h).1).i2) ++ ((rnums_m h).1).i3) ++ ((rnums_m h).1).i4))) rfl rfl (run_mv rfl rfl) ?_
  simp only [nz1, nz2, nz3]
  refine lvw 104 (.string (tx ((roct_m (rsum_m ((((((((rfield_m h.name 100).1 ++ ((rnums_m h).1).i0) ++ ((rnums_m h).1).i1) ++ ((rnums_m h).1).i2) ++ ((rnums_m h).1).i3) ++ ((rnums_m h).1).i4) ++ [32, 32, 32, 32, 32, 32, 32, 32]) ++ (((((([h.flag] : List UInt8) ++ (rfield_m h.link 100).1) ++ [117, 115, 116, 97, 114, 0, 48, 48]) ++ (rfield_m ([]) 80).1) ++ (rfield_m h.pfx 155).1) ++ (rfield_m ([]) 12).1))) 6).1))) rfl rfl (run_mv rfl rfl) ?_
  simp only [nz1, nz2, nz3]
  refine lvw 105 (.string (tx (((((((rfield_m h.name 100).1 ++ ((rnums_m h).1).i0) ++ ((rnums_m h).1).i1) ++ ((rnums_m h).1).i2) ++ ((rnums_m h).1).i3) ++ ((rnums_m h).1).i4) ++ (roct_m (rsum_m ((((((((rfield_m h.name 100).1 ++ ((rnums_m h).1).i0) ++ ((rnums_m h).1).i1) ++ ((rnums_m h).1).i2) ++ ((rnums_m h).1).i3) ++ ((rnums_m h).1).i4) ++ [32, 32, 32, 32, 32, 32, 32, 32]) ++ (((((([h.flag] : List UInt8) ++ (rfield_m h.link 100).1) ++ [117, 115, 116, 97, 114, 0, 48, 48]) ++ (rfield_m ([]) 80).1) ++ (rfield_m h.pfx 155).1) ++ (rfield_m ([]) 12).1))) 6).1))) rfl rfl (t_cat ((((((rfield_m h.name 100).1 ++ ((rnums_m h).1).i0) ++ ((rnums_m h).1).i1) ++ ((rnums_m h).1).i2) ++ ((rnums_m h).1).i3) ++ ((rnums_m h).1).i4) ((roct_m (rsum_m ((((((((rfield_m h.name 100).1 ++ ((rnums_m h).1).i0) ++ ((rnums_m h).1).i1) ++ ((rnums_m h).1).i2) ++ ((rnums_m h).1).i3) ++ ((rnums_m h).1).i4) ++ [32, 32, 32, 32, 32, 32, 32, 32]) ++ (((((([h.flag] : List UInt8) ++ (rfield_m h.link 100).1) ++ [117, 115, 116, 97, 114, 0, 48, 48]) ++ (rfield_m ([]) 80).1) ++ (rfield_m h.pfx 155).1) ++ (rfield_m ([]) 12).1))) 6).1) (by first | omega | (simp; omega) | (simp only [List.length_append, List.length_cons, List.length_nil] at *; omega)) rfl rfl rfl) ?_
  simp only [nz1, nz2, nz3]
  refine lvw 106 (.string (tx ((((((((rfield_m h.name 100).1 ++ ((rnums_m h).1).i0) ++ ((rnums_m h).1).i1) ++ ((rnums_m h).1).i2) ++ ((rnums_m h).1).i3) ++ ((rnums_m h).1).i4) ++ (roct_m (rsum_m ((((((((rfield_m h.name 100).1 ++ ((rnums_m h).1).i0) ++ ((rnums_m h).1).i1) ++ ((rnums_m h).1).i2) ++ ((rnums_m h).1).i3) ++ ((rnums_m h).1).i4) ++ [32, 32, 32, 32, 32, 32, 32, 32]) ++ (((((([h.flag] : List UInt8) ++ (rfield_m h.link 100).1) ++ [117, 115, 116, 97, 114, 0, 48, 48]) ++ (rfield_m ([]) 80).1) ++ (rfield_m h.pfx 155).1) ++ (rfield_m ([]) 12).1))) 6).1) ++ [0, 32]))) rfl rfl (t_cat (((((((rfield_m h.name 100).1 ++ ((rnums_m h).1).i0) ++ ((rnums_m h).1).i1) ++ ((rnums_m h).1).i2) ++ ((rnums_m h).1).i3) ++ ((rnums_m h).1).i4) ++ (roct_m (rsum_m ((((((((rfield_m h.name 100).1 ++ ((rnums_m h).1).i0) ++ ((rnums_m h).1).i1) ++ ((rnums_m h).1).i2) ++ ((rnums_m h).1).i3) ++ ((rnums_m h).1).i4) ++ [32, 32, 32, 32, 32, 32, 32, 32]) ++ (((((([h.flag] : List UInt8) ++ (rfield_m h.link 100).1) ++ [117, 115, 116, 97, 114, 0, 48, 48]) ++ (rfield_m ([]) 80).1) ++ (rfield_m h.pfx 155).1) ++ (rfield_m ([]) 12).1))) 6).1) ([0, 32]) (by first | omega | (simp; omega) | (simp only [List.length_append, List.length_cons, List.length_nil] at *; omega)) rfl rfl rfl) ?_
  simp only [nz1, nz2, nz3]
  refine lvw 107 (.string (tx (((((([h.flag] : List UInt8) ++ (rfield_m h.link 100).1) ++ [117, 115, 116, 97, 114, 0, 48, 48]) ++ (rfield_m ([]) 80).1) ++ (rfield_m h.pfx 155).1) ++ (rfield_m ([]) 12).1))) rfl rfl (run_mv rfl rfl) ?_
  simp only [nz1, nz2, nz3]
  refine lvw 108 (.string (tx (((((((((rfield_m h.name 100).1 ++ ((rnums_m h).1).i0) ++ ((rnums_m h).1).i1) ++ ((rnums_m h).1).i2) ++ ((rnums_m h).1).i3) ++ ((rnums_m h).1).i4) ++ (roct_m (rsum_m ((((((((rfield_m h.name 100).1 ++ ((rnums_m h).1).i0) ++ ((rnums_m h).1).i1) ++ ((rnums_m h).1).i2) ++ ((rnums_m h).1).i3) ++ ((rnums_m h).1).i4) ++ [32, 32, 32, 32, 32, 32, 32, 32]) ++ (((((([h.flag] : List UInt8) ++ (rfield_m h.link 100).1) ++ [117, 115, 116, 97, 114, 0, 48, 48]) ++ (rfield_m ([]) 80).1) ++ (rfield_m h.pfx 155).1) ++ (rfield_m ([]) 12).1))) 6).1) ++ [0, 32]) ++ (((((([h.flag] : List UInt8) ++ (rfield_m h.link 100).1) ++ [117, 115, 116, 97, 114, 0, 48, 48]) ++ (rfield_m ([]) 80).1) ++ (rfield_m h.pfx 155).1) ++ (rfield_m ([]) 12).1)))) rfl rfl (t_cat ((((((((rfield_m h.name 100).1 ++ ((rnums_m h).1).i0) ++ ((rnums_m h).1).i1) ++ ((rnums_m h).1).i2) ++ ((rnums_m h).1).i3) ++ ((rnums_m h).1).i4) ++ (roct_m (rsum_m ((((((((rfield_m h.name 100).1 ++ ((rnums_m h).1).i0) ++ ((rnums_m h).1).i1) ++ ((rnums_m h).1).i2) ++ ((rnums_m h).1).i3) ++ ((rnums_m h).1).i4) ++ [32, 32, 32, 32, 32, 32, 32, 32]) ++ (((((([h.flag] : List UInt8) ++ (rfield_m h.link 100).1) ++ [117, 115, 116, 97, 114, 0, 48, 48]) ++ (rfield_m ([]) 80).1) ++ (rfield_m h.pfx 155).1) ++ (rfield_m ([]) 12).1))) 6).1) ++ [0, 32]) (((((([h.flag] : List UInt8) ++ (rfield_m h.link 100).1) ++ [117, 115, 116, 97, 114, 0, 48, 48]) ++ (rfield_m ([]) 80).1) ++ (rfield_m h.pfx 155).1) ++ (rfield_m ([]) 12).1) (by first | omega | (simp; omega) | (simp only [List.length_append, List.length_cons, List.length_nil] at *; omega)) rfl rfl rfl) ?_
  simp only [nz1, nz2, nz3]
  refine lvw 2 (.string (tx (((((((((rfield_m h.name 100).1 ++ ((rnums_m h).1).i0) ++ ((rnums_m h).1).i1) ++ ((rnums_m h).1).i2) ++ ((rnums_m h).1).i3) ++ ((rnums_m h).1).i4) ++ (roct_m (rsum_m ((((((((rfield_m h.name 100).1 ++ ((rnums_m h).1).i0) ++ ((rnums_m h).1).i1) ++ ((rnums_m h).1).i2) ++ ((rnums_m h).1).i3) ++ ((rnums_m h).1).i4) ++ [32, 32, 32, 32, 32, 32, 32, 32]) ++ (((((([h.flag] : List UInt8) ++ (rfield_m h.link 100).1) ++ [117, 115, 116, 97, 114, 0, 48, 48]) ++ (rfield_m ([]) 80).1) ++ (rfield_m h.pfx 155).1) ++ (rfield_m ([]) 12).1))) 6).1) ++ [0, 32]) ++ (((((([h.flag] : List UInt8) ++ (rfield_m h.link 100).1) ++ [117, 115, 116, 97, 114, 0, 48, 48]) ++ (rfield_m ([]) 80).1) ++ (rfield_m h.pfx 155).1) ++ (rfield_m ([]) 12).1)))) rfl rfl (run_as rfl rfl) ?_
  simp only [nz1, nz2, nz3]
  refine lvw 3 (.int .i64 0) rfl rfl (run_as rfl rfl) ?_
  simp only [nz1, nz2, nz3]
  refine wpList_nil ?_
  refine then_n (hK63 _ _ ?_)
  refine wp_ret ?_
  have he64 : rencode_m h = ((((((((((rfield_m h.name 100).1 ++ ((rnums_m h).1).i0) ++ ((rnums_m h).1).i1) ++ ((rnums_m h).1).i2) ++ ((rnums_m h).1).i3) ++ ((rnums_m h).1).i4) ++ (roct_m (rsum_m ((((((((rfield_m h.name 100).1 ++ ((rnums_m h).1).i0) ++ ((rnums_m h).1).i1) ++ ((rnums_m h).1).i2) ++ ((rnums_m h).1).i3) ++ ((rnums_m h).1).i4) ++ [32, 32, 32, 32, 32, 32, 32, 32]) ++ (((((([h.flag] : List UInt8) ++ (rfield_m h.link 100).1) ++ [117, 115, 116, 97, 114, 0, 48, 48]) ++ (rfield_m ([]) 80).1) ++ (rfield_m h.pfx 155).1) ++ (rfield_m ([]) 12).1))) 6).1) ++ [0, 32]) ++ (((((([h.flag] : List UInt8) ++ (rfield_m h.link 100).1) ++ [117, 115, 116, 97, 114, 0, 48, 48]) ++ (rfield_m ([]) 80).1) ++ (rfield_m h.pfx 155).1) ++ (rfield_m ([]) 12).1)), 0) := (show rencode_m h = ((((((((((rfield_m h.name 100).1 ++ ((rnums_m h).1).i0) ++ ((rnums_m h).1).i1) ++ ((rnums_m h).1).i2) ++ ((rnums_m h).1).i3) ++ ((rnums_m h).1).i4) ++ (roct_m (rsum_m ((((((((rfield_m h.name 100).1 ++ ((rnums_m h).1).i0) ++ ((rnums_m h).1).i1) ++ ((rnums_m h).1).i2) ++ ((rnums_m h).1).i3) ++ ((rnums_m h).1).i4) ++ [32, 32, 32, 32, 32, 32, 32, 32]) ++ (((((([h.flag] : List UInt8) ++ (rfield_m h.link 100).1) ++ [117, 115, 116, 97, 114, 0, 48, 48]) ++ (rfield_m ([]) 80).1) ++ (rfield_m h.pfx 155).1) ++ (rfield_m ([]) 12).1))) 6).1) ++ [0, 32]) ++ (((((([h.flag] : List UInt8) ++ (rfield_m h.link 100).1) ++ [117, 115, 116, 97, 114, 0, 48, 48]) ++ (rfield_m ([]) 80).1) ++ (rfield_m h.pfx 155).1) ++ (rfield_m ([]) 12).1)), 0) from by unfold rencode_m; rw [if_neg hs19, if_neg hs22, if_neg hc25, if_neg hc39] <;> rfl)
  exact ⟨rfl, .tuple #[.string (tx (((((((((rfield_m h.name 100).1 ++ ((rnums_m h).1).i0) ++ ((rnums_m h).1).i1) ++ ((rnums_m h).1).i2) ++ ((rnums_m h).1).i3) ++ ((rnums_m h).1).i4) ++ (roct_m (rsum_m ((((((((rfield_m h.name 100).1 ++ ((rnums_m h).1).i0) ++ ((rnums_m h).1).i1) ++ ((rnums_m h).1).i2) ++ ((rnums_m h).1).i3) ++ ((rnums_m h).1).i4) ++ [32, 32, 32, 32, 32, 32, 32, 32]) ++ (((((([h.flag] : List UInt8) ++ (rfield_m h.link 100).1) ++ [117, 115, 116, 97, 114, 0, 48, 48]) ++ (rfield_m ([]) 80).1) ++ (rfield_m h.pfx 155).1) ++ (rfield_m ([]) 12).1))) 6).1) ++ [0, 32]) ++ (((((([h.flag] : List UInt8) ++ (rfield_m h.link 100).1) ++ [117, 115, 116, 97, 114, 0, 48, 48]) ++ (rfield_m ([]) 80).1) ++ (rfield_m h.pfx 155).1) ++ (rfield_m ([]) 12).1))), .int .i64 0], res_tt rfl rfl rfl, ⟨by (rw [he64]; try rfl), hm61.below⟩⟩
theorem run_rencode {o : Oper} {a : Act} {w : World} {x0 : Operand} {v0 : Value} (ho : o.op = .call { callee := .value (.func 15), args := #[x0], argTypes := #[23] }) (h0 : a.eval x0 = v0) :
    (execOp a.eval o).run Tryd.prog w = .ok (.enter 15 #[v0]) w := by
  unfold execOp
  simp only [ho]
  have hf : a.eval (.func 15) = .func (.func 15) #[] #[] := rfl
  generalize a.eval = f at *
  go_simp
end Go.Proofs.YtglnifckngcpkaaDoor.Hd
