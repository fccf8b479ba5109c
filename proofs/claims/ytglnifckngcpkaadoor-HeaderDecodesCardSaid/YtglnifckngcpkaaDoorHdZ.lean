/- Layer 9: a header read as the document says. -/
import Derived.Test.YtglnifckngcpkaaDoorHdI4
import Derived.Test.YtglnifckngcpkaaDoorHdS
namespace Go.Proofs.YtglnifckngcpkaaDoor.Hd
open Go.RowKit
open Go.Proofs.YtglnifckngcpkaaDoor.Sym Go.Proofs.YtglnifckngcpkaaDoor.Mem
open Go.Proofs.YtglnifckngcpkaaDoor.Sx hiding Mm m_alloc m_store m_put m_call m_callx m_make m_append r_string r_ixS
set_option linter.unusedVariables false
attribute [local irreducible] rget_m rsum_m rtext_m
attribute [local irreducible] wpList Oper.wp

def rdecode_m_b0 (s : List UInt8) (rec : Nat × (List UInt8) × Nat × Nat × Nat × Nat × Nat × UInt8 × (List UInt8) × (List UInt8) × Int × Int × Int × Int × Int × Int → Sum (Nat × (List UInt8) × Nat × Nat × Nat × Nat × Nat × UInt8 × (List UInt8) × (List UInt8) × Int × Int × Int × Int × Int × Int) (Hdr × Int)) (x35 : Nat) (x36 : List UInt8) (x37 : Nat) (x38 : Nat) (x39 : Nat) (x40 : Nat) (x41 : Nat) (x42 : UInt8) (x43 : List UInt8) (x44 : List UInt8) (x45 : Int) (x46 : Int) (x47 : Int) (x48 : Int) (x49 : Int) (x50 : Int) : Sum (Nat × (List UInt8) × Nat × Nat × Nat × Nat × Nat × UInt8 × (List UInt8) × (List UInt8) × Int × Int × Int × Int × Int × Int) (Hdr × Int) :=
  if x35 < 6 then
    if x35 = 0 then
      if ¬ (rget_m ((s.take (148 + 8)).drop 148)).2 = 0 then
        .inr ((Hdr.mk ([]) 0 0 0 0 0 (UInt8.ofNat 0) ([]) ([])), (rget_m ((s.take (148 + 8)).drop 148)).2)
      else
        if x35 = 0 then
          if ¬ (rget_m ((s.take (148 + 8)).drop 148)).1 = (rsum_m s) then
            .inr ((Hdr.mk ([]) 0 0 0 0 0 (UInt8.ofNat 0) ([]) ([])), 2)
          else
            rec ((x35 + 1), x36, x37, x38, x39, x40, x41, x42, x43, x44, (rget_m ((s.take (148 + 8)).drop 148)).1, x46, x47, x48, x49, x50)
        else
          rec ((x35 + 1), x36, x37, x38, x39, x40, x41, x42, x43, x44, (rget_m ((s.take (148 + 8)).drop 148)).1, x46, x47, x48, x49, x50)
    else
      if x35 = 1 then
        if ¬ (rget_m ((s.take (100 + 8)).drop 100)).2 = 0 then
          .inr ((Hdr.mk ([]) 0 0 0 0 0 (UInt8.ofNat 0) ([]) ([])), (rget_m ((s.take (100 + 8)).drop 100)).2)
        else
          if x35 = 0 then
            if ¬ (rget_m ((s.take (100 + 8)).drop 100)).1 = (rsum_m s) then
              .inr ((Hdr.mk ([]) 0 0 0 0 0 (UInt8.ofNat 0) ([]) ([])), 2)
            else
              rec ((x35 + 1), x36, x37, x38, x39, x40, x41, x42, x43, x44, x45, (rget_m ((s.take (100 + 8)).drop 100)).1, x47, x48, x49, x50)
          else
            rec ((x35 + 1), x36, x37, x38, x39, x40, x41, x42, x43, x44, x45, (rget_m ((s.take (100 + 8)).drop 100)).1, x47, x48, x49, x50)
      else
        if x35 = 2 then
          if ¬ (rget_m ((s.take (108 + 8)).drop 108)).2 = 0 then
            .inr ((Hdr.mk ([]) 0 0 0 0 0 (UInt8.ofNat 0) ([]) ([])), (rget_m ((s.take (108 + 8)).drop 108)).2)
          else
            if x35 = 0 then
              if ¬ (rget_m ((s.take (108 + 8)).drop 108)).1 = (rsum_m s) then
                .inr ((Hdr.mk ([]) 0 0 0 0 0 (UInt8.ofNat 0) ([]) ([])), 2)
              else
                rec ((x35 + 1), x36, x37, x38, x39, x40, x41, x42, x43, x44, x45, x46, (rget_m ((s.take (108 + 8)).drop 108)).1, x48, x49, x50)
            else
              rec ((x35 + 1), x36, x37, x38, x39, x40, x41, x42, x43, x44, x45, x46, (rget_m ((s.take (108 + 8)).drop 108)).1, x48, x49, x50)
        else
          if x35 = 3 then
            if ¬ (rget_m ((s.take (116 + 8)).drop 116)).2 = 0 then
              .inr ((Hdr.mk ([]) 0 0 0 0 0 (UInt8.ofNat 0) ([]) ([])), (rget_m ((s.take (116 + 8)).drop 116)).2)
            else
              if x35 = 0 then
                if ¬ (rget_m ((s.take (116 + 8)).drop 116)).1 = (rsum_m s) then
                  .inr ((Hdr.mk ([]) 0 0 0 0 0 (UInt8.ofNat 0) ([]) ([])), 2)
                else
                  rec ((x35 + 1), x36, x37, x38, x39, x40, x41, x42, x43, x44, x45, x46, x47, (rget_m ((s.take (116 + 8)).drop 116)).1, x49, x50)
              else
                rec ((x35 + 1), x36, x37, x38, x39, x40, x41, x42, x43, x44, x45, x46, x47, (rget_m ((s.take (116 + 8)).drop 116)).1, x49, x50)
          else
            if x35 = 4 then
              if ¬ (rget_m ((s.take (124 + 12)).drop 124)).2 = 0 then
                .inr ((Hdr.mk ([]) 0 0 0 0 0 (UInt8.ofNat 0) ([]) ([])), (rget_m ((s.take (124 + 12)).drop 124)).2)
              else
                if x35 = 0 then
                  if ¬ (rget_m ((s.take (124 + 12)).drop 124)).1 = (rsum_m s) then
                    .inr ((Hdr.mk ([]) 0 0 0 0 0 (UInt8.ofNat 0) ([]) ([])), 2)
                  else
                    rec ((x35 + 1), x36, x37, x38, x39, x40, x41, x42, x43, x44, x45, x46, x47, x48, (rget_m ((s.take (124 + 12)).drop 124)).1, x50)
                else
                  rec ((x35 + 1), x36, x37, x38, x39, x40, x41, x42, x43, x44, x45, x46, x47, x48, (rget_m ((s.take (124 + 12)).drop 124)).1, x50)
            else
              if ¬ (rget_m ((s.take (136 + 12)).drop 136)).2 = 0 then
                .inr ((Hdr.mk ([]) 0 0 0 0 0 (UInt8.ofNat 0) ([]) ([])), (rget_m ((s.take (136 + 12)).drop 136)).2)
              else
                if x35 = 0 then
                  if ¬ (rget_m ((s.take (136 + 12)).drop 136)).1 = (rsum_m s) then
                    .inr ((Hdr.mk ([]) 0 0 0 0 0 (UInt8.ofNat 0) ([]) ([])), 2)
                  else
                    rec ((x35 + 1), x36, x37, x38, x39, x40, x41, x42, x43, x44, x45, x46, x47, x48, x49, (rget_m ((s.take (136 + 12)).drop 136)).1)
                else
                  rec ((x35 + 1), x36, x37, x38, x39, x40, x41, x42, x43, x44, x45, x46, x47, x48, x49, (rget_m ((s.take (136 + 12)).drop 136)).1)
  else
    .inl (x35, x36, x37, x38, x39, x40, x41, x42, x43, x44, x45, x46, x47, x48, x49, x50)
def rdecode_m_l0 (s : List UInt8) : Nat → Nat × (List UInt8) × Nat × Nat × Nat × Nat × Nat × UInt8 × (List UInt8) × (List UInt8) × Int × Int × Int × Int × Int × Int → Sum (Nat × (List UInt8) × Nat × Nat × Nat × Nat × Nat × UInt8 × (List UInt8) × (List UInt8) × Int × Int × Int × Int × Int × Int) (Hdr × Int)
  | 0, zz => .inl zz
  | nq + 1, zz => rdecode_m_b0 s (rdecode_m_l0 s nq) zz.1 zz.2.1 zz.2.2.1 zz.2.2.2.1 zz.2.2.2.2.1 zz.2.2.2.2.2.1 zz.2.2.2.2.2.2.1 zz.2.2.2.2.2.2.2.1 zz.2.2.2.2.2.2.2.2.1 zz.2.2.2.2.2.2.2.2.2.1 zz.2.2.2.2.2.2.2.2.2.2.1 zz.2.2.2.2.2.2.2.2.2.2.2.1 zz.2.2.2.2.2.2.2.2.2.2.2.2.1 zz.2.2.2.2.2.2.2.2.2.2.2.2.2.1 zz.2.2.2.2.2.2.2.2.2.2.2.2.2.2.1 zz.2.2.2.2.2.2.2.2.2.2.2.2.2.2.2

def rdecode_m_k0 (s : List UInt8) (y54 : Nat) (y55 : List UInt8) (y56 : Nat) (y57 : Nat) (y58 : Nat) (y59 : Nat) (y60 : Nat) (y61 : UInt8) (y62 : List UInt8) (y63 : List UInt8) (y64 : Int) (y65 : Int) (y66 : Int) (y67 : Int) (y68 : Int) (y69 : Int) : Hdr × Int :=
  ((Hdr.mk (rtext_m (s.take 100)) y65 y66 y67 y68 y69 (s.getD 156 0) (rtext_m ((s.take 257).drop 157)) (rtext_m ((s.take 500).drop 345))), 0)

def rdecode_m (s : List UInt8) : Hdr × Int :=
  if ¬ s.length = 512 then
    ((Hdr.mk ([]) 0 0 0 0 0 (UInt8.ofNat 0) ([]) ([])), 2)
  else
    if ¬ ((s.take 265).drop 257) = [117, 115, 116, 97, 114, 0, 48, 48] then
      ((Hdr.mk ([]) 0 0 0 0 0 (UInt8.ofNat 0) ([]) ([])), 2)
    else
      fin (rdecode_m_l0 s ((6 - 0) + 1) (0, ([]), 0, 0, 0, 0, 0, (UInt8.ofNat 0), ([]), ([]), 0, 0, 0, 0, 0, 0)) (fun r => r) (fun zz => rdecode_m_k0 s zz.1 zz.2.1 zz.2.2.1 zz.2.2.2.1 zz.2.2.2.2.1 zz.2.2.2.2.2.1 zz.2.2.2.2.2.2.1 zz.2.2.2.2.2.2.2.1 zz.2.2.2.2.2.2.2.2.1 zz.2.2.2.2.2.2.2.2.2.1 zz.2.2.2.2.2.2.2.2.2.2.1 zz.2.2.2.2.2.2.2.2.2.2.2.1 zz.2.2.2.2.2.2.2.2.2.2.2.2.1 zz.2.2.2.2.2.2.2.2.2.2.2.2.2.1 zz.2.2.2.2.2.2.2.2.2.2.2.2.2.2.1 zz.2.2.2.2.2.2.2.2.2.2.2.2.2.2.2)

set_option maxHeartbeats 4000000 in
set_option maxRecDepth 100000 in
theorem rdecode_any (s : List UInt8) (w : World)   : Calls Tryd.prog 18 #[.string (tx s)] w (fun e w' => e = .returned (.tuple #[.agg #[.string (tx (((rdecode_m s).1).name)), .int .i64 (((rdecode_m s).1).mode), .int .i64 (((rdecode_m s).1).uid), .int .i64 (((rdecode_m s).1).gid), .int .i64 (((rdecode_m s).1).size), .int .i64 (((rdecode_m s).1).time), .int .u8 (((((rdecode_m s).1).flag).toNat : Nat) : Int), .string (tx (((rdecode_m s).1).link)), .string (tx (((rdecode_m s).1).pfx))], .int .i64 ((rdecode_m s).2)]) ∧ Below w.heap.size w w') := by
  go_enter Tryd.func18, Tryd.ntmps18
  have hm00 := Mm.nil none (fun _ => True) w
  have hm0 := hm00
  refine wp_seq_k (fun K1 hK1 => ?_)
  refine wp_region_lit ?_
  refine lst rfl (m_alloc (c := #[.string (tx ([])), .int .i64 0, .int .i64 0, .int .i64 0, .int .i64 0, .int .i64 0, .int .u8 0, .string (tx ([])), .string (tx ([]))]) (T := 23) hm0 2 rfl (by unfold execOp; go_simp; try rfl) (fun g4 w2 (hm3 : Mm none (fun _ => True) w w2 [.blk g4 #[.string (tx ([])), .int .i64 0, .int .i64 0, .int .i64 0, .int .i64 0, .int .i64 0, .int .u8 0, .string (tx ([])), .string (tx ([]))] 23]) => ?_))
  simp only [nz1, nz2, nz3]
  refine lvw 3 (.int .i64 0) rfl rfl (run_as rfl rfl) ?_
  simp only [nz1, nz2, nz3]
  refine wpList_nil ?_
  refine then_n (hK1 _ _ ?_)
  refine wp_seq_k (fun K5 hK5 => ?_)
  refine wp_seq_k (fun K6 hK6 => ?_)
  refine wp_region_lit ?_
  refine lvw 10 (.string (tx s)) rfl rfl (run_mv rfl rfl) ?_
  simp only [nz1, nz2, nz3]
  refine lvw 11 (.int .i64 ((s.length : Nat) : Int)) rfl rfl (t_len rfl Tryd.underlying9 rfl) ?_
  simp only [nz1, nz2, nz3]
  refine lvb 12 (¬ s.length = 512) rfl rfl (r_neq s.length 512 rfl rfl rfl) (fun hs7 => ?_) (fun hs7 => ?_)
  · simp only [nz1, nz2, nz3]
    refine lvw 13 (.bool true) rfl rfl (run_mv rfl rfl) ?_
    simp only [nz1, nz2, nz3]
    refine lst_skip 14 rfl rfl ?_
    simp only [nz1, nz2, nz3]
    refine lst_skip 15 rfl rfl ?_
    simp only [nz1, nz2, nz3]
    refine lst_skip 16 rfl rfl ?_
    simp only [nz1, nz2, nz3]
    refine lvw 17 (.bool true) rfl rfl (run_pick rfl rfl rfl) ?_
    simp only [nz1, nz2, nz3]
    refine wpList_nil ?_
    refine then_n (hK6 _ _ ?_)
    refine cond_t rfl ?_
    refine wp_seq_k (fun K8 hK8 => ?_)
    refine wp_region_lit ?_
    refine lvw 18 (.agg #[.string (tx ([])), .int .i64 0, .int .i64 0, .int .i64 0, .int .i64 0, .int .i64 0, .int .u8 0, .string (tx ([])), .string (tx ([]))]) rfl rfl (by unfold execOp; go_simp; try (first | rfl | (repeat' (first | rfl | apply And.intro)))) ?_
    simp only [nz1, nz2, nz3]
    refine lst rfl (m_store 0 23 _ _ 0 (.agg #[.string (tx ([])), .int .i64 0, .int .i64 0, .int .i64 0, .int .i64 0, .int .i64 0, .int .u8 0, .string (tx ([])), .string (tx ([]))]) (old := #[.string (tx ([])), .int .i64 0, .int .i64 0, .int .i64 0, .int .i64 0, .int .i64 0, .int .u8 0, .string (tx ([])), .string (tx ([]))]) (new := #[.string (tx ([])), .int .i64 0, .int .i64 0, .int .i64 0, .int .i64 0, .int .i64 0, .int .u8 0, .string (tx ([])), .string (tx ([]))]) hm3 rfl rfl rfl rfl rfl (by exact sz_23) (show 0 + 9 ≤ 9 from by decide) (by simp [Value.cells, Value.oneCell']) rfl (fun w9 (hm10 : Mm none (fun _ => True) w w9 [.blk g4 #[.string (tx ([])), .int .i64 0, .int .i64 0, .int .i64 0, .int .i64 0, .int .i64 0, .int .u8 0, .string (tx ([])), .string (tx ([]))] 23]) => ?_))
    refine lvw 3 (.int .i64 2) rfl rfl (run_as rfl rfl) ?_
    simp only [nz1, nz2, nz3]
    refine wpList_nil ?_
    refine then_n (hK8 _ _ ?_)
    refine wp_ret ?_
    refine then_r ?_
    have he11 : rdecode_m s = ((Hdr.mk ([]) 0 0 0 0 0 (UInt8.ofNat 0) ([]) ([])), 2) := (show rdecode_m s = ((Hdr.mk ([]) 0 0 0 0 0 (UInt8.ofNat 0) ([]) ([])), 2) from by unfold rdecode_m; rw [if_pos hs7] <;> rfl)
    exact ⟨rfl, .tuple #[.agg #[.string (tx ([])), .int .i64 0, .int .i64 0, .int .i64 0, .int .i64 0, .int .i64 0, .int .u8 0, .string (tx ([])), .string (tx ([]))], .int .i64 2], Mem.res_ct rfl rfl (hm10.at 0 rfl) Tryd.underlying23 rfl (by exact sz_23) rfl, ⟨by (rw [he11]; try rfl), hm10.below⟩⟩
  simp only [nz1, nz2, nz3]
  refine lvw 13 (.bool false) rfl rfl (run_mv rfl rfl) ?_
  simp only [nz1, nz2, nz3]
  refine lvw 14 (.string (tx s)) rfl rfl (run_mv rfl rfl) ?_
  simp only [nz1, nz2, nz3]
  refine lvw 15 (.string (tx ((s.take 265).drop 257))) rfl rfl (t_cut s 257 265 (by omega) (by omega) Tryd.underlying9 rfl rfl rfl rfl) ?_
  simp only [nz1, nz2, nz3]
  refine lvw 16 (.bool (decide (¬ ((s.take 265).drop 257) = [117, 115, 116, 97, 114, 0, 48, 48]))) rfl rfl (t_neq ((s.take 265).drop 257) ([117, 115, 116, 97, 114, 0, 48, 48]) rfl rfl rfl) ?_
  simp only [nz1, nz2, nz3]
  refine lvw 17 (.bool (decide (¬ ((s.take 265).drop 257) = [117, 115, 116, 97, 114, 0, 48, 48]))) rfl rfl (run_pickf rfl rfl rfl) ?_
  simp only [nz1, nz2, nz3]
  refine wpList_nil ?_
  refine then_n (hK6 _ _ ?_)
  refine cond_d (¬ ((s.take 265).drop 257) = [117, 115, 116, 97, 114, 0, 48, 48]) rfl (fun hc12 => ?_) (fun hc12 => ?_)
  · refine wp_seq_k (fun K13 hK13 => ?_)
    refine wp_region_lit ?_
    refine lvw 18 (.agg #[.string (tx ([])), .int .i64 0, .int .i64 0, .int .i64 0, .int .i64 0, .int .i64 0, .int .u8 0, .string (tx ([])), .string (tx ([]))]) rfl rfl (by unfold execOp; go_simp; try (first | rfl | (repeat' (first | rfl | apply And.intro)))) ?_
    simp only [nz1, nz2, nz3]
    refine lst rfl (m_store 0 23 _ _ 0 (.agg #[.string (tx ([])), .int .i64 0, .int .i64 0, .int .i64 0, .int .i64 0, .int .i64 0, .int .u8 0, .string (tx ([])), .string (tx ([]))]) (old := #[.string (tx ([])), .int .i64 0, .int .i64 0, .int .i64 0, .int .i64 0, .int .i64 0, .int .u8 0, .string (tx ([])), .string (tx ([]))]) (new := #[.string (tx ([])), .int .i64 0, .int .i64 0, .int .i64 0, .int .i64 0, .int .i64 0, .int .u8 0, .string (tx ([])), .string (tx ([]))]) hm3 rfl rfl rfl rfl rfl (by exact sz_23) (show 0 + 9 ≤ 9 from by decide) (by simp [Value.cells, Value.oneCell']) rfl (fun w14 (hm15 : Mm none (fun _ => True) w w14 [.blk g4 #[.string (tx ([])), .int .i64 0, .int .i64 0, .int .i64 0, .int .i64 0, .int .i64 0, .int .u8 0, .string (tx ([])), .string (tx ([]))] 23]) => ?_))
    refine lvw 3 (.int .i64 2) rfl rfl (run_as rfl rfl) ?_
    simp only [nz1, nz2, nz3]
    refine wpList_nil ?_
    refine then_n (hK13 _ _ ?_)
    refine wp_ret ?_
    refine then_r ?_
    have he16 : rdecode_m s = ((Hdr.mk ([]) 0 0 0 0 0 (UInt8.ofNat 0) ([]) ([])), 2) := (show rdecode_m s = ((Hdr.mk ([]) 0 0 0 0 0 (UInt8.ofNat 0) ([]) ([])), 2) from by unfold rdecode_m; rw [if_neg hs7, if_pos hc12] <;> rfl)
    exact ⟨rfl, .tuple #[.agg #[.string (tx ([])), .int .i64 0, .int .i64 0, .int .i64 0, .int .i64 0, .int .i64 0, .int .u8 0, .string (tx ([])), .string (tx ([]))], .int .i64 2], Mem.res_ct rfl rfl (hm15.at 0 rfl) Tryd.underlying23 rfl (by exact sz_23) rfl, ⟨by (rw [he16]; try rfl), hm15.below⟩⟩
  refine wp_skip ?_
  refine then_n (hK5 _ _ ?_)
  refine wp_seq_k (fun K17 hK17 => ?_)
  refine wp_region_lit ?_
  refine lvw 19 (.agg #[.int .i64 148, .int .i64 100, .int .i64 108, .int .i64 116, .int .i64 124, .int .i64 136]) rfl rfl (by unfold execOp; go_simp; try (first | rfl | (repeat' (first | rfl | apply And.intro)))) ?_
  simp only [nz1, nz2, nz3]
  refine lst rfl (m_alloc (c := #[.int .i64 0, .int .i64 0, .int .i64 0, .int .i64 0, .int .i64 0, .int .i64 0]) (T := 62) hm3 4 rfl (by unfold execOp; go_simp; try rfl) (fun g20 w18 (hm19 : Mm none (fun _ => True) w w18 [.blk g4 #[.string (tx ([])), .int .i64 0, .int .i64 0, .int .i64 0, .int .i64 0, .int .i64 0, .int .u8 0, .string (tx ([])), .string (tx ([]))] 23, .blk g20 #[.int .i64 0, .int .i64 0, .int .i64 0, .int .i64 0, .int .i64 0, .int .i64 0] 62]) => ?_))
  simp only [nz1, nz2, nz3]
  refine lst rfl (m_store 1 62 _ _ 0 (.agg #[.int .i64 148, .int .i64 100, .int .i64 108, .int .i64 116, .int .i64 124, .int .i64 136]) (old := #[.int .i64 0, .int .i64 0, .int .i64 0, .int .i64 0, .int .i64 0, .int .i64 0]) (new := #[.int .i64 148, .int .i64 100, .int .i64 108, .int .i64 116, .int .i64 124, .int .i64 136]) hm19 rfl rfl rfl rfl rfl (by exact sz_62) (show 0 + 6 ≤ 6 from by decide) (by simp [Value.cells, Value.oneCell']) rfl (fun w21 (hm22 : Mm none (fun _ => True) w w21 [.blk g4 #[.string (tx ([])), .int .i64 0, .int .i64 0, .int .i64 0, .int .i64 0, .int .i64 0, .int .u8 0, .string (tx ([])), .string (tx ([]))] 23, .blk g20 #[.int .i64 148, .int .i64 100, .int .i64 108, .int .i64 116, .int .i64 124, .int .i64 136] 62]) => ?_))
  refine wpList_nil ?_
  refine then_n (hK17 _ _ ?_)
  refine wp_seq_k (fun K23 hK23 => ?_)
  refine wp_region_lit ?_
  refine lvw 20 (.agg #[.int .i64 8, .int .i64 8, .int .i64 8, .int .i64 8, .int .i64 12, .int .i64 12]) rfl rfl (by unfold execOp; go_simp; try (first | rfl | (repeat' (first | rfl | apply And.intro)))) ?_
  simp only [nz1, nz2, nz3]
  refine lst rfl (m_alloc (c := #[.int .i64 0, .int .i64 0, .int .i64 0, .int .i64 0, .int .i64 0, .int .i64 0]) (T := 62) hm22 5 rfl (by unfold execOp; go_simp; try rfl) (fun g26 w24 (hm25 : Mm none (fun _ => True) w w24 [.blk g4 #[.string (tx ([])), .int .i64 0, .int .i64 0, .int .i64 0, .int .i64 0, .int .i64 0, .int .u8 0, .string (tx ([])), .string (tx ([]))] 23, .blk g20 #[.int .i64 148, .int .i64 100, .int .i64 108, .int .i64 116, .int .i64 124, .int .i64 136] 62, .blk g26 #[.int .i64 0, .int .i64 0, .int .i64 0, .int .i64 0, .int .i64 0, .int .i64 0] 62]) => ?_))
  simp only [nz1, nz2, nz3]
  refine lst rfl (m_store 2 62 _ _ 0 (.agg #[.int .i64 8, .int .i64 8, .int .i64 8, .int .i64 8, .int .i64 12, .int .i64 12]) (old := #[.int .i64 0, .int .i64 0, .int .i64 0, .int .i64 0, .int .i64 0, .int .i64 0]) (new := #[.int .i64 8, .int .i64 8, .int .i64 8, .int .i64 8, .int .i64 12, .int .i64 12]) hm25 rfl rfl rfl rfl rfl (by exact sz_62) (show 0 + 6 ≤ 6 from by decide) (by simp [Value.cells, Value.oneCell']) rfl (fun w27 (hm28 : Mm none (fun _ => True) w w27 [.blk g4 #[.string (tx ([])), .int .i64 0, .int .i64 0, .int .i64 0, .int .i64 0, .int .i64 0, .int .u8 0, .string (tx ([])), .string (tx ([]))] 23, .blk g20 #[.int .i64 148, .int .i64 100, .int .i64 108, .int .i64 116, .int .i64 124, .int .i64 136] 62, .blk g26 #[.int .i64 8, .int .i64 8, .int .i64 8, .int .i64 8, .int .i64 12, .int .i64 12] 62]) => ?_))
  refine wpList_nil ?_
  refine then_n (hK23 _ _ ?_)
  refine wp_seq_k (fun K29 hK29 => ?_)
  refine wp_region_lit ?_
  refine lst rfl (m_alloc (c := #[.int .i64 0, .int .i64 0, .int .i64 0, .int .i64 0, .int .i64 0, .int .i64 0]) (T := 62) hm28 6 rfl (by unfold execOp; go_simp; try rfl) (fun g32 w30 (hm31 : Mm none (fun _ => True) w w30 [.blk g4 #[.string (tx ([])), .int .i64 0, .int .i64 0, .int .i64 0, .int .i64 0, .int .i64 0, .int .u8 0, .string (tx ([])), .string (tx ([]))] 23, .blk g20 #[.int .i64 148, .int .i64 100, .int .i64 108, .int .i64 116, .int .i64 124, .int .i64 136] 62, .blk g26 #[.int .i64 8, .int .i64 8, .int .i64 8, .int .i64 8, .int .i64 12, .int .i64 12] 62, .blk g32 #[.int .i64 0, .int .i64 0, .int .i64 0, .int .i64 0, .int .i64 0, .int .i64 0] 62]) => ?_))
  simp only [nz1, nz2, nz3]
  refine wpList_nil ?_
  refine then_n (hK29 _ _ ?_)
  refine wp_seq_k (fun K33 hK33 => ?_)
  refine wp_seq_k (fun K34 hK34 => ?_)
  refine wp_region_lit ?_
  refine lvw 7 (.int .i64 0) rfl rfl (run_as rfl rfl) ?_
  simp only [nz1, nz2, nz3]
  refine wpList_nil ?_
  refine then_n (hK34 _ _ ?_)
  refine wp_cutK (fun a' w' => ∃ (y54 : Nat) (y55 : List UInt8) (y56 : Nat) (y57 : Nat) (y58 : Nat) (y59 : Nat) (y60 : Nat) (y61 : UInt8) (y62 : List UInt8) (y63 : List UInt8) (y64 : Int) (y65 : Int) (y66 : Int) (y67 : Int) (y68 : Int) (y69 : Int) (yu0 : Nat → Value), rdecode_m_l0 s ((6 - 0) + 1) (0, ([]), 0, 0, 0, 0, 0, (UInt8.ofNat 0), ([]), ([]), 0, 0, 0, 0, 0, 0) = .inl (y54, y55, y56, y57, y58, y59, y60, y61, y62, y63, y64, y65, y66, y67, y68, y69) ∧ (y54 ≤ 6) ∧ a' = ⟨#[.string (tx s), undef, .pointer (some ⟨g4, 0, none⟩), yu0 0, .pointer (some ⟨g20, 0, none⟩), .pointer (some ⟨g26, 0, none⟩), .pointer (some ⟨g32, 0, none⟩), .int .i64 ((y54 : Nat) : Int), yu0 1, yu0 2, .string (tx s), .int .i64 ((s.length : Nat) : Int), .bool false, .bool false, .string (tx s), .string (tx ((s.take 265).drop 257)), .bool (decide (¬ ((s.take 265).drop 257) = [117, 115, 116, 97, 114, 0, 48, 48])), .bool (decide (¬ ((s.take 265).drop 257) = [117, 115, 116, 97, 114, 0, 48, 48])), undef, .agg #[.int .i64 148, .int .i64 100, .int .i64 108, .int .i64 116, .int .i64 124, .int .i64 136], .agg #[.int .i64 8, .int .i64 8, .int .i64 8, .int .i64 8, .int .i64 12, .int .i64 12], yu0 3, yu0 4, yu0 5, yu0 6, yu0 7, yu0 8, yu0 9, yu0 10, yu0 11, yu0 12, yu0 13, yu0 14, yu0 15, yu0 16, yu0 17, yu0 18, yu0 19, yu0 20, yu0 21, yu0 22, yu0 23, yu0 24, yu0 25, yu0 26, yu0 27, yu0 28, yu0 29, yu0 30, yu0 31, yu0 32, yu0 33, yu0 34, yu0 35, yu0 36, yu0 37, yu0 38, undef, undef, undef, undef, undef, undef, undef, undef, undef, undef, undef, undef, undef, undef, undef, undef, undef, undef, undef, undef, undef, undef], []⟩ ∧ Mm none (fun _ => True) w w' [.blk g4 #[.string (tx y55), .int .i64 ((y56 : Nat) : Int), .int .i64 ((y57 : Nat) : Int), .int .i64 ((y58 : Nat) : Int), .int .i64 ((y59 : Nat) : Int), .int .i64 ((y60 : Nat) : Int), .int .u8 ((y61.toNat : Nat) : Int), .string (tx y62), .string (tx y63)] 23, .blk g20 #[.int .i64 148, .int .i64 100, .int .i64 108, .int .i64 116, .int .i64 124, .int .i64 136] 62, .blk g26 #[.int .i64 8, .int .i64 8, .int .i64 8, .int .i64 8, .int .i64 12, .int .i64 12] 62, .blk g32 #[.int .i64 (y64), .int .i64 (y65), .int .i64 (y66), .int .i64 (y67), .int .i64 (y68), .int .i64 (y69)] 62]) ?_ ?_
  · refine wp_block ?_
    refine wp_loop_n (fun n' a' w' => ∃ (n51 : Nat) (x35 : Nat) (x36 : List UInt8) (x37 : Nat) (x38 : Nat) (x39 : Nat) (x40 : Nat) (x41 : Nat) (x42 : UInt8) (x43 : List UInt8) (x44 : List UInt8) (x45 : Int) (x46 : Int) (x47 : Int) (x48 : Int) (x49 : Int) (x50 : Int) (u0 : Nat → Value), n' = n51 ∧ (6 - x35) < n51 ∧ rdecode_m_l0 s ((6 - 0) + 1) (0, ([]), 0, 0, 0, 0, 0, (UInt8.ofNat 0), ([]), ([]), 0, 0, 0, 0, 0, 0) = rdecode_m_l0 s n51 (x35, x36, x37, x38, x39, x40, x41, x42, x43, x44, x45, x46, x47, x48, x49, x50) ∧ (x35 ≤ 6) ∧ a' = ⟨#[.string (tx s), undef, .pointer (some ⟨g4, 0, none⟩), u0 0, .pointer (some ⟨g20, 0, none⟩), .pointer (some ⟨g26, 0, none⟩), .pointer (some ⟨g32, 0, none⟩), .int .i64 ((x35 : Nat) : Int), u0 1, u0 2, .string (tx s), .int .i64 ((s.length : Nat) : Int), .bool false, .bool false, .string (tx s), .string (tx ((s.take 265).drop 257)), .bool (decide (¬ ((s.take 265).drop 257) = [117, 115, 116, 97, 114, 0, 48, 48])), .bool (decide (¬ ((s.take 265).drop 257) = [117, 115, 116, 97, 114, 0, 48, 48])), undef, .agg #[.int .i64 148, .int .i64 100, .int .i64 108, .int .i64 116, .int .i64 124, .int .i64 136], .agg #[.int .i64 8, .int .i64 8, .int .i64 8, .int .i64 8, .int .i64 12, .int .i64 12], u0 3, u0 4, u0 5, u0 6, u0 7, u0 8, u0 9, u0 10, u0 11, u0 12, u0 13, u0 14, u0 15, u0 16, u0 17, u0 18, u0 19, u0 20, u0 21, u0 22, u0 23, u0 24, u0 25, u0 26, u0 27, u0 28, u0 29, u0 30, u0 31, u0 32, u0 33, u0 34, u0 35, u0 36, u0 37, u0 38, undef, undef, undef, undef, undef, undef, undef, undef, undef, undef, undef, undef, undef, undef, undef, undef, undef, undef, undef, undef, undef, undef], []⟩ ∧ Mm none (fun _ => True) w w' [.blk g4 #[.string (tx x36), .int .i64 ((x37 : Nat) : Int), .int .i64 ((x38 : Nat) : Int), .int .i64 ((x39 : Nat) : Int), .int .i64 ((x40 : Nat) : Int), .int .i64 ((x41 : Nat) : Int), .int .u8 ((x42.toNat : Nat) : Int), .string (tx x43), .string (tx x44)] 23, .blk g20 #[.int .i64 148, .int .i64 100, .int .i64 108, .int .i64 116, .int .i64 124, .int .i64 136] 62, .blk g26 #[.int .i64 8, .int .i64 8, .int .i64 8, .int .i64 8, .int .i64 12, .int .i64 12] 62, .blk g32 #[.int .i64 (x45), .int .i64 (x46), .int .i64 (x47), .int .i64 (x48), .int .i64 (x49), .int .i64 (x50)] 62]) ⟨((6 - 0) + 1), 0, ([]), 0, 0, 0, 0, 0, (UInt8.ofNat 0), ([]), ([]), 0, 0, 0, 0, 0, 0, (fun qq => bif Nat.blt qq 24 then List.getD [.int .i64 0, undef, undef, undef, undef, undef, undef, undef, undef, undef, undef, undef, undef, undef, undef, undef, undef, undef, undef, undef, undef, undef, undef, undef] qq undef else List.getD [undef, undef, undef, undef, undef, undef, undef, undef, undef, undef, undef, undef, undef, undef, undef] (qq - 24) undef), rfl, Nat.lt_succ_self _, rfl, (by first | omega | (simp; done) | (simp; omega) | (simp at *; omega)), rfl, hm31⟩ ?_
    rintro n51 _ w71 ⟨_, x35, x36, x37, x38, x39, x40, x41, x42, x43, x44, x45, x46, x47, x48, x49, x50, u0, rfl, hl75, hi53, hrd, rfl, hm72⟩ R73 hR73
    obtain ⟨k52, rfl⟩ : ∃ k, n51 = k + 1 := ⟨n51 - 1, by omega⟩
    refine wp_seq_k (fun K76 hK76 => ?_)
    refine wp_seq_k (fun K77 hK77 => ?_)
    refine wp_region_lit ?_
    refine lvw 21 (.int .i64 ((x35 : Nat) : Int)) rfl rfl (run_mv rfl rfl) ?_
    simp only [nz1, nz2, nz3]
    refine lvw 22 (.bool (decide (x35 < 6))) rfl rfl (r_lss x35 6 rfl rfl rfl) ?_
    simp only [nz1, nz2, nz3]
    refine wpList_nil ?_
    refine then_n (hK77 _ _ ?_)
    refine cond_d (x35 < 6) rfl (fun hc78 => ?_) (fun hc78 => ?_)
    rotate_left
    · refine wp_exit ?_
      refine then_x ?_
      refine then_x ?_
      refine blk_x ?_
      refine then_n ?_
      exact ⟨x35, x36, x37, x38, x39, x40, x41, x42, x43, x44, x45, x46, x47, x48, x49, x50, (fun qq => bif Nat.blt qq 24 then List.getD [u0 0, u0 1, u0 2, .int .i64 ((x35 : Nat) : Int), .bool (decide (x35 < 6)), u0 5, u0 6, u0 7, u0 8, u0 9, u0 10, u0 11, u0 12, u0 13, u0 14, u0 15, u0 16, u0 17, u0 18, u0 19, u0 20, u0 21, u0 22, u0 23] qq undef else List.getD [u0 24, u0 25, u0 26, u0 27, u0 28, u0 29, u0 30, u0 31, u0 32, u0 33, u0 34, u0 35, u0 36, u0 37, u0 38] (qq - 24) undef), (hi53.trans (show rdecode_m_b0 s (rdecode_m_l0 s k52) x35 x36 x37 x38 x39 x40 x41 x42 x43 x44 x45 x46 x47 x48 x49 x50 = .inl (x35, x36, x37, x38, x39, x40, x41, x42, x43, x44, x45, x46, x47, x48, x49, x50) from by unfold rdecode_m_b0; rw [if_neg hc78] <;> rfl)), (by first | omega | (simp; done) | (simp; omega) | (simp at *; omega)), rfl, hm72⟩
    refine wp_skip ?_
    refine then_n (hK76 _ _ ?_)
    refine wp_seq_k (fun K79 hK79 => ?_)
    refine wp_block ?_
    refine wp_seq_k (fun K80 hK80 => ?_)
    have hm81 := hm72.drew
    refine wp_region_held_drew (S := fun w' => Mem.Blk w' g20 (#[.int .i64 148, .int .i64 100, .int .i64 108, .int .i64 116, .int .i64 124, .int .i64 136]) 62 ∧ Mem.Blk w' g26 (#[.int .i64 8, .int .i64 8, .int .i64 8, .int .i64 8, .int .i64 12, .int .i64 12]) 62) (by kernel_rfl) (⟨hm81.at 1 rfl, hm81.at 2 rfl⟩) (fun _ => ?_)
    generalize w71.drew = w82 at *
    refine tk 0 26 (.string (tx s)) rfl rfl (fun _ hw => run_mv rfl rfl) (⟨hm81.at 1 rfl, hm81.at 2 rfl⟩) ?_
    simp only [nz1, nz2, nz3]
    refine tk 1 27 (.int .i64 ((x35 : Nat) : Int)) rfl rfl (fun _ hw => run_mv rfl rfl) (⟨hm81.at 1 rfl, hm81.at 2 rfl⟩) ?_
    simp only [nz1, nz2, nz3]
    by_cases hx83 : x35 = 0
    · refine tk 2 28 (.pointer (some ⟨g20, 0, none⟩)) rfl rfl (fun _ hw => Sx.r_ix g20 0 (by decide) Tryd.underlying62 sz_3 rfl rfl (show (Value.int .i64 ((x35 : Nat) : Int)) = .int .i64 (((0 : Nat)) : Int) from by congr 1; omega)) (⟨hm81.at 1 rfl, hm81.at 2 rfl⟩) ?_
      simp only [nz1, nz2, nz3]
      refine tk 3 29 (.int .i64 148) rfl rfl (fun _ hw => r_load hw.1 rfl Tryd.underlying3 rfl rfl rfl) (⟨hm81.at 1 rfl, hm81.at 2 rfl⟩) ?_
      simp only [nz1, nz2, nz3]
      refine tk 4 30 (.int .i64 ((x35 : Nat) : Int)) rfl rfl (fun _ hw => run_mv rfl rfl) (⟨hm81.at 1 rfl, hm81.at 2 rfl⟩) ?_
      simp only [nz1, nz2, nz3]
      refine tk 5 31 (.pointer (some ⟨g20, 0, none⟩)) rfl rfl (fun _ hw => Sx.r_ix g20 0 (by decide) Tryd.underlying62 sz_3 rfl rfl (show (Value.int .i64 ((x35 : Nat) : Int)) = .int .i64 (((0 : Nat)) : Int) from by congr 1; omega)) (⟨hm81.at 1 rfl, hm81.at 2 rfl⟩) ?_
      simp only [nz1, nz2, nz3]
      refine tk 6 32 (.int .i64 148) rfl rfl (fun _ hw => r_load hw.1 rfl Tryd.underlying3 rfl rfl rfl) (⟨hm81.at 1 rfl, hm81.at 2 rfl⟩) ?_
      simp only [nz1, nz2, nz3]
      refine tk 7 33 (.int .i64 ((x35 : Nat) : Int)) rfl rfl (fun _ hw => run_mv rfl rfl) (⟨hm81.at 1 rfl, hm81.at 2 rfl⟩) ?_
      simp only [nz1, nz2, nz3]
      refine tk 8 34 (.pointer (some ⟨g26, 0, none⟩)) rfl rfl (fun _ hw => Sx.r_ix g26 0 (by decide) Tryd.underlying62 sz_3 rfl rfl (show (Value.int .i64 ((x35 : Nat) : Int)) = .int .i64 (((0 : Nat)) : Int) from by congr 1; omega)) (⟨hm81.at 1 rfl, hm81.at 2 rfl⟩) ?_
      simp only [nz1, nz2, nz3]
      refine tk 9 35 (.int .i64 8) rfl rfl (fun _ hw => r_load hw.2 rfl Tryd.underlying3 rfl rfl rfl) (⟨hm81.at 1 rfl, hm81.at 2 rfl⟩) ?_
      simp only [nz1, nz2, nz3]
      refine tk 10 36 (.int .i64 (((148 + 8) : Nat) : Int)) rfl rfl (fun _ hw => r_add 148 8 (show (148 + 8) < 9223372036854775808 from by omega) rfl rfl rfl) (⟨hm81.at 1 rfl, hm81.at 2 rfl⟩) ?_
      simp only [nz1, nz2, nz3]
      refine tk 11 37 (.string (tx ((s.take (148 + 8)).drop 148))) rfl rfl (fun _ hw => t_cut s 148 (148 + 8) (by omega) (by omega) Tryd.underlying9 rfl rfl rfl rfl) (⟨hm81.at 1 rfl, hm81.at 2 rfl⟩) ?_
      simp only [nz1, nz2, nz3]
      refine one_ready 12 (by kernel_rfl) ?_
      refine opd rfl (wanted_none rfl) (m_call hm81 38 (.tuple #[.int .i64 ((rget_m ((s.take (148 + 8)).drop 148)).1), .int .i64 ((rget_m ((s.take (148 + 8)).drop 148)).2)]) rfl (run_rget rfl rfl) (rget_any ((s.take (148 + 8)).drop 148)  _  (by first | omega | assumption | (rw [List.length_drop]; omega) | (rw [List.length_take]; omega) | (rw [List.length_drop, List.length_take]; omega) | (simp; done) | (simp; omega) | (simp only [List.length_append, List.length_cons, List.length_nil]; omega) | (simp only [List.length_append, List.length_cons, List.length_nil] at *; omega) | decide)) (fun w84 (hm85 : Mm none (fun _ => True) w w84 [.blk g4 #[.string (tx x36), .int .i64 ((x37 : Nat) : Int), .int .i64 ((x38 : Nat) : Int), .int .i64 ((x39 : Nat) : Int), .int .i64 ((x40 : Nat) : Int), .int .i64 ((x41 : Nat) : Int), .int .u8 ((x42.toNat : Nat) : Int), .string (tx x43), .string (tx x44)] 23, .blk g20 #[.int .i64 148, .int .i64 100, .int .i64 108, .int .i64 116, .int .i64 124, .int .i64 136] 62, .blk g26 #[.int .i64 8, .int .i64 8, .int .i64 8, .int .i64 8, .int .i64 12, .int .i64 12] 62, .blk g32 #[.int .i64 (x45), .int .i64 (x46), .int .i64 (x47), .int .i64 (x48), .int .i64 (x49), .int .i64 (x50)] 62]) => ?_))
      refine ⟨⟨hm85.at 1 rfl, hm85.at 2 rfl⟩, ?_⟩
      simp only [nz1, nz2, nz3]
      refine tk 13 25 (.tuple #[.int .i64 ((rget_m ((s.take (148 + 8)).drop 148)).1), .int .i64 ((rget_m ((s.take (148 + 8)).drop 148)).2)]) rfl rfl (fun _ hw => run_mv rfl rfl) (⟨hm85.at 1 rfl, hm85.at 2 rfl⟩) ?_
      simp only [nz1, nz2, nz3]
      refine tk 14 39 (.int .i64 ((rget_m ((s.take (148 + 8)).drop 148)).1)) rfl rfl (fun _ hw => run_ex rfl rfl rfl) (⟨hm85.at 1 rfl, hm85.at 2 rfl⟩) ?_
      simp only [nz1, nz2, nz3]
      refine tk 15 40 (.int .i64 ((rget_m ((s.take (148 + 8)).drop 148)).2)) rfl rfl (fun _ hw => run_ex rfl rfl rfl) (⟨hm85.at 1 rfl, hm85.at 2 rfl⟩) ?_
      simp only [nz1, nz2, nz3]
      refine one_ready 16 (by kernel_rfl) ?_
      refine opd rfl (wanted_none rfl) (w_value 8 (.int .i64 ((rget_m ((s.take (148 + 8)).drop 148)).1)) rfl (run_as rfl rfl) ⟨⟨hm85.at 1 rfl, hm85.at 2 rfl⟩, ?_⟩)
      simp only [nz1, nz2, nz3]
      refine one_ready 17 (by kernel_rfl) ?_
      refine opd rfl (wanted_none rfl) (w_value 9 (.int .i64 ((rget_m ((s.take (148 + 8)).drop 148)).2)) rfl (run_as rfl rfl) ⟨⟨hm85.at 1 rfl, hm85.at 2 rfl⟩, ?_⟩)
      simp only [nz1, nz2, nz3]
      refine wpAnyH_done (by kernel_rfl) ?_ _
      refine then_n (hK80 _ _ ?_)
      refine wp_seq_k (fun K86 hK86 => ?_)
      refine wp_seq_k (fun K87 hK87 => ?_)
      refine wp_region_lit ?_
      refine lvw 41 (.int .i64 ((rget_m ((s.take (148 + 8)).drop 148)).2)) rfl rfl (run_mv rfl rfl) ?_
      simp only [nz1, nz2, nz3]
      refine lvw 42 (.bool (decide (¬ (rget_m ((s.take (148 + 8)).drop 148)).2 = 0))) rfl rfl (z_neq ((rget_m ((s.take (148 + 8)).drop 148)).2) 0 rfl rfl rfl) ?_
      simp only [nz1, nz2, nz3]
      refine wpList_nil ?_
      refine then_n (hK87 _ _ ?_)
      refine cond_d (¬ (rget_m ((s.take (148 + 8)).drop 148)).2 = 0) rfl (fun hc88 => ?_) (fun hc88 => ?_)
      · refine wp_seq_k (fun K89 hK89 => ?_)
        refine wp_region_lit ?_
        refine lvw 43 (.agg #[.string (tx ([])), .int .i64 0, .int .i64 0, .int .i64 0, .int .i64 0, .int .i64 0, .int .u8 0, .string (tx ([])), .string (tx ([]))]) rfl rfl (by unfold execOp; go_simp; try (first | rfl | (repeat' (first | rfl | apply And.intro)))) ?_
        simp only [nz1, nz2, nz3]
        refine lvw 44 (.int .i64 ((rget_m ((s.take (148 + 8)).drop 148)).2)) rfl rfl (run_mv rfl rfl) ?_
        simp only [nz1, nz2, nz3]
        refine lst rfl (m_store 0 23 _ _ 0 (.agg #[.string (tx ([])), .int .i64 0, .int .i64 0, .int .i64 0, .int .i64 0, .int .i64 0, .int .u8 0, .string (tx ([])), .string (tx ([]))]) (old := #[.string (tx x36), .int .i64 ((x37 : Nat) : Int), .int .i64 ((x38 : Nat) : Int), .int .i64 ((x39 : Nat) : Int), .int .i64 ((x40 : Nat) : Int), .int .i64 ((x41 : Nat) : Int), .int .u8 ((x42.toNat : Nat) : Int), .string (tx x43), .string (tx x44)]) (new := #[.string (tx ([])), .int .i64 0, .int .i64 0, .int .i64 0, .int .i64 0, .int .i64 0, .int .u8 0, .string (tx ([])), .string (tx ([]))]) hm85 rfl rfl rfl rfl rfl (by exact sz_23) (show 0 + 9 ≤ 9 from by decide) (by simp [Value.cells, Value.oneCell']) rfl (fun w90 (hm91 : Mm none (fun _ => True) w w90 [.blk g4 #[.string (tx ([])), .int .i64 0, .int .i64 0, .int .i64 0, .int .i64 0, .int .i64 0, .int .u8 0, .string (tx ([])), .string (tx ([]))] 23, .blk g20 #[.int .i64 148, .int .i64 100, .int .i64 108, .int .i64 116, .int .i64 124, .int .i64 136] 62, .blk g26 #[.int .i64 8, .int .i64 8, .int .i64 8, .int .i64 8, .int .i64 12, .int .i64 12] 62, .blk g32 #[.int .i64 (x45), .int .i64 (x46), .int .i64 (x47), .int .i64 (x48), .int .i64 (x49), .int .i64 (x50)] 62]) => ?_))
        refine lvw 3 (.int .i64 ((rget_m ((s.take (148 + 8)).drop 148)).2)) rfl rfl (run_as rfl rfl) ?_
        simp only [nz1, nz2, nz3]
        refine wpList_nil ?_
        refine then_n (hK89 _ _ ?_)
        refine wp_ret ?_
        refine then_r ?_
        refine blk_r ?_
        refine then_r ?_
        refine then_r ?_
        refine blk_r ?_
        refine then_r ?_
        refine then_r ?_
        have he92 : rdecode_m_l0 s ((6 - 0) + 1) (0, ([]), 0, 0, 0, 0, 0, (UInt8.ofNat 0), ([]), ([]), 0, 0, 0, 0, 0, 0) = .inr ((Hdr.mk ([]) 0 0 0 0 0 (UInt8.ofNat 0) ([]) ([])), (rget_m ((s.take (148 + 8)).drop 148)).2) := (hi53.trans (show rdecode_m_b0 s (rdecode_m_l0 s k52) x35 x36 x37 x38 x39 x40 x41 x42 x43 x44 x45 x46 x47 x48 x49 x50 = .inr ((Hdr.mk ([]) 0 0 0 0 0 (UInt8.ofNat 0) ([]) ([])), (rget_m ((s.take (148 + 8)).drop 148)).2) from by unfold rdecode_m_b0; rw [if_pos hc78, if_pos hx83, if_pos hc88] <;> rfl))
        have he93 : rdecode_m s = ((Hdr.mk ([]) 0 0 0 0 0 (UInt8.ofNat 0) ([]) ([])), (rget_m ((s.take (148 + 8)).drop 148)).2) := (show rdecode_m s = ((Hdr.mk ([]) 0 0 0 0 0 (UInt8.ofNat 0) ([]) ([])), (rget_m ((s.take (148 + 8)).drop 148)).2) from by unfold rdecode_m; rw [if_neg hs7, if_neg hc12, he92] <;> rfl)
        exact ⟨rfl, .tuple #[.agg #[.string (tx ([])), .int .i64 0, .int .i64 0, .int .i64 0, .int .i64 0, .int .i64 0, .int .u8 0, .string (tx ([])), .string (tx ([]))], .int .i64 ((rget_m ((s.take (148 + 8)).drop 148)).2)], Mem.res_ct rfl rfl (hm91.at 0 rfl) Tryd.underlying23 rfl (by exact sz_23) rfl, ⟨by (rw [he93]; try rfl), hm91.below⟩⟩
      refine wp_skip ?_
      refine then_n (hK86 _ _ ?_)
      refine wp_seq_k (fun K94 hK94 => ?_)
      refine wp_region_lit ?_
      refine lvw 45 (.int .i64 ((x35 : Nat) : Int)) rfl rfl (run_mv rfl rfl) ?_
      simp only [nz1, nz2, nz3]
      refine lvw 46 (.int .i64 ((rget_m ((s.take (148 + 8)).drop 148)).1)) rfl rfl (run_mv rfl rfl) ?_
      simp only [nz1, nz2, nz3]
      refine lvw 47 (.pointer (some ⟨g32, 0, none⟩)) rfl rfl (Sx.r_ix g32 0 (by decide) Tryd.underlying62 sz_3 rfl rfl (show (Value.int .i64 ((x35 : Nat) : Int)) = .int .i64 (((0 : Nat)) : Int) from by congr 1; omega)) ?_
      simp only [nz1, nz2, nz3]
      refine lst rfl (m_store 3 3 _ _ 0 (.int .i64 ((rget_m ((s.take (148 + 8)).drop 148)).1)) (old := #[.int .i64 (x45), .int .i64 (x46), .int .i64 (x47), .int .i64 (x48), .int .i64 (x49), .int .i64 (x50)]) (new := #[.int .i64 ((rget_m ((s.take (148 + 8)).drop 148)).1), .int .i64 (x46), .int .i64 (x47), .int .i64 (x48), .int .i64 (x49), .int .i64 (x50)]) hm85 rfl rfl rfl rfl rfl (by exact sz_3) (show 0 + 1 ≤ 6 from by decide) (one_all rfl) rfl (fun w95 (hm96 : Mm none (fun _ => True) w w95 [.blk g4 #[.string (tx x36), .int .i64 ((x37 : Nat) : Int), .int .i64 ((x38 : Nat) : Int), .int .i64 ((x39 : Nat) : Int), .int .i64 ((x40 : Nat) : Int), .int .i64 ((x41 : Nat) : Int), .int .u8 ((x42.toNat : Nat) : Int), .string (tx x43), .string (tx x44)] 23, .blk g20 #[.int .i64 148, .int .i64 100, .int .i64 108, .int .i64 116, .int .i64 124, .int .i64 136] 62, .blk g26 #[.int .i64 8, .int .i64 8, .int .i64 8, .int .i64 8, .int .i64 12, .int .i64 12] 62, .blk g32 #[.int .i64 ((rget_m ((s.take (148 + 8)).drop 148)).1), .int .i64 (x46), .int .i64 (x47), .int .i64 (x48), .int .i64 (x49), .int .i64 (x50)] 62]) => ?_))
      refine wpList_nil ?_
      refine then_n (hK94 _ _ ?_)
      refine wp_seq_k (fun K97 hK97 => ?_)
      refine wp_region_lit ?_
      refine lvw 48 (.int .i64 ((x35 : Nat) : Int)) rfl rfl (run_mv rfl rfl) ?_
      simp only [nz1, nz2, nz3]
      refine lvb 49 (x35 = 0) rfl rfl (r_eql x35 0 rfl rfl rfl) (fun hs98 => ?_) (fun hs98 => ?_)
      rotate_left
      · simp only [nz1, nz2, nz3]
        refine lvw 50 (.bool false) rfl rfl (run_mv rfl rfl) ?_
        simp only [nz1, nz2, nz3]
        refine lst_skip 51 rfl rfl ?_
        simp only [nz1, nz2, nz3]
        refine lst_skip 52 rfl rfl ?_
        simp only [nz1, nz2, nz3]
        refine lst_skip 53 rfl rfl ?_
        simp only [nz1, nz2, nz3]
        refine lst_skip 54 rfl rfl ?_
        simp only [nz1, nz2, nz3]
        refine lvw 55 (.bool false) rfl rfl (run_pickf rfl rfl rfl) ?_
        simp only [nz1, nz2, nz3]
        refine wpList_nil ?_
        refine then_n (hK97 _ _ ?_)
        refine cond_f rfl ?_
        refine wp_skip ?_
        refine blk_n ?_
        refine then_n (hK79 _ _ ?_)
        refine wp_region_lit ?_
        refine lvw 23 (.int .i64 ((x35 : Nat) : Int)) rfl rfl (run_mv rfl rfl) ?_
        simp only [nz1, nz2, nz3]
        refine lvw 24 (.int .i64 (((x35 + 1) : Nat) : Int)) rfl rfl (r_add x35 1 (show (x35 + 1) < 9223372036854775808 from by omega) rfl rfl rfl) ?_
        simp only [nz1, nz2, nz3]
        refine lvw 7 (.int .i64 (((x35 + 1) : Nat) : Int)) rfl rfl (run_as rfl rfl) ?_
        simp only [nz1, nz2, nz3]
        refine wpList_nil ?_
        refine then_n (hR73 _ _ _ ⟨k52, (x35 + 1), x36, x37, x38, x39, x40, x41, x42, x43, x44, (rget_m ((s.take (148 + 8)).drop 148)).1, x46, x47, x48, x49, x50, (fun qq => bif Nat.blt qq 24 then List.getD [u0 0, .int .i64 ((rget_m ((s.take (148 + 8)).drop 148)).1), .int .i64 ((rget_m ((s.take (148 + 8)).drop 148)).2), .int .i64 ((x35 : Nat) : Int), .bool (decide (x35 < 6)), .int .i64 ((x35 : Nat) : Int), .int .i64 (((x35 + 1) : Nat) : Int), .tuple #[.int .i64 ((rget_m ((s.take (148 + 8)).drop 148)).1), .int .i64 ((rget_m ((s.take (148 + 8)).drop 148)).2)], .string (tx s), .int .i64 ((x35 : Nat) : Int), .pointer (some ⟨g20, 0, none⟩), .int .i64 148, .int .i64 ((x35 : Nat) : Int), .pointer (some ⟨g20, 0, none⟩), .int .i64 148, .int .i64 ((x35 : Nat) : Int), .pointer (some ⟨g26, 0, none⟩), .int .i64 8, .int .i64 (((148 + 8) : Nat) : Int), .string (tx ((s.take (148 + 8)).drop 148)), .tuple #[.int .i64 ((rget_m ((s.take (148 + 8)).drop 148)).1), .int .i64 ((rget_m ((s.take (148 + 8)).drop 148)).2)], .int .i64 ((rget_m ((s.take (148 + 8)).drop 148)).1), .int .i64 ((rget_m ((s.take (148 + 8)).drop 148)).2), .int .i64 ((rget_m ((s.take (148 + 8)).drop 148)).2)] qq undef else List.getD [.bool (decide (¬ (rget_m ((s.take (148 + 8)).drop 148)).2 = 0)), u0 25, u0 26, .int .i64 ((x35 : Nat) : Int), .int .i64 ((rget_m ((s.take (148 + 8)).drop 148)).1), .pointer (some ⟨g32, 0, none⟩), .int .i64 ((x35 : Nat) : Int), .bool false, .bool false, undef, undef, undef, undef, .bool false, u0 38] (qq - 24) undef), rfl, (by first | omega | (simp; omega) | (simp at *; omega)), (hi53.trans (show rdecode_m_b0 s (rdecode_m_l0 s k52) x35 x36 x37 x38 x39 x40 x41 x42 x43 x44 x45 x46 x47 x48 x49 x50 = rdecode_m_l0 s k52 ((x35 + 1), x36, x37, x38, x39, x40, x41, x42, x43, x44, (rget_m ((s.take (148 + 8)).drop 148)).1, x46, x47, x48, x49, x50) from by unfold rdecode_m_b0; rw [if_pos hc78, if_pos hx83, if_neg hc88, if_neg hs98] <;> rfl)), (by first | omega | (simp; done) | (simp; omega) | (simp at *; omega)), rfl, hm96⟩ ?_)
        omega
      simp only [nz1, nz2, nz3]
      refine lvw 50 (.bool true) rfl rfl (run_mv rfl rfl) ?_
      simp only [nz1, nz2, nz3]
      refine lvw 51 (.int .i64 ((rget_m ((s.take (148 + 8)).drop 148)).1)) rfl rfl (run_mv rfl rfl) ?_
      simp only [nz1, nz2, nz3]
      refine lvw 52 (.string (tx s)) rfl rfl (run_mv rfl rfl) ?_
      simp only [nz1, nz2, nz3]
      refine lst rfl (m_call hm96 53 (.int .i64 ((rsum_m s))) rfl (run_rsum rfl rfl) (rsum_any s  _  ) (fun w99 (hm100 : Mm none (fun _ => True) w w99 [.blk g4 #[.string (tx x36), .int .i64 ((x37 : Nat) : Int), .int .i64 ((x38 : Nat) : Int), .int .i64 ((x39 : Nat) : Int), .int .i64 ((x40 : Nat) : Int), .int .i64 ((x41 : Nat) : Int), .int .u8 ((x42.toNat : Nat) : Int), .string (tx x43), .string (tx x44)] 23, .blk g20 #[.int .i64 148, .int .i64 100, .int .i64 108, .int .i64 116, .int .i64 124, .int .i64 136] 62, .blk g26 #[.int .i64 8, .int .i64 8, .int .i64 8, .int .i64 8, .int .i64 12, .int .i64 12] 62, .blk g32 #[.int .i64 ((rget_m ((s.take (148 + 8)).drop 148)).1), .int .i64 (x46), .int .i64 (x47), .int .i64 (x48), .int .i64 (x49), .int .i64 (x50)] 62]) => ?_))
      have hf101 : 0 ≤ (rsum_m s) ∧ (rsum_m s) ≤ 131072 := rsum_rng s
      simp only [nz1, nz2, nz3]
      refine lvw 54 (.bool (decide (¬ (rget_m ((s.take (148 + 8)).drop 148)).1 = (rsum_m s)))) rfl rfl (z_neq ((rget_m ((s.take (148 + 8)).drop 148)).1) (rsum_m s) rfl rfl rfl) ?_
      simp only [nz1, nz2, nz3]
      refine lvw 55 (.bool (decide (¬ (rget_m ((s.take (148 + 8)).drop 148)).1 = (rsum_m s)))) rfl rfl (run_pick rfl rfl rfl) ?_
      simp only [nz1, nz2, nz3]
      refine wpList_nil ?_
      refine then_n (hK97 _ _ ?_)
      refine cond_d (¬ (rget_m ((s.take (148 + 8)).drop 148)).1 = (rsum_m s)) rfl (fun hc102 => ?_) (fun hc102 => ?_)
      rotate_left
      · refine wp_skip ?_
        refine blk_n ?_
        refine then_n (hK79 _ _ ?_)
        refine wp_region_lit ?_
        refine lvw 23 (.int .i64 ((x35 : Nat) : Int)) rfl rfl (run_mv rfl rfl) ?_
        simp only [nz1, nz2, nz3]
        refine lvw 24 (.int .i64 (((x35 + 1) : Nat) : Int)) rfl rfl (r_add x35 1 (show (x35 + 1) < 9223372036854775808 from by omega) rfl rfl rfl) ?_
        simp only [nz1, nz2, nz3]
        refine lvw 7 (.int .i64 (((x35 + 1) : Nat) : Int)) rfl rfl (run_as rfl rfl) ?_
        simp only [nz1, nz2, nz3]
        refine wpList_nil ?_
        refine then_n (hR73 _ _ _ ⟨k52, (x35 + 1), x36, x37, x38, x39, x40, x41, x42, x43, x44, (rget_m ((s.take (148 + 8)).drop 148)).1, x46, x47, x48, x49, x50, (fun qq => bif Nat.blt qq 24 then List.getD [u0 0, .int .i64 ((rget_m ((s.take (148 + 8)).drop 148)).1), .int .i64 ((rget_m ((s.take (148 + 8)).drop 148)).2), .int .i64 ((x35 : Nat) : Int), .bool (decide (x35 < 6)), .int .i64 ((x35 : Nat) : Int), .int .i64 (((x35 + 1) : Nat) : Int), .tuple #[.int .i64 ((rget_m ((s.take (148 + 8)).drop 148)).1), .int .i64 ((rget_m ((s.take (148 + 8)).drop 148)).2)], .string (tx s), .int .i64 ((x35 : Nat) : Int), .pointer (some ⟨g20, 0, none⟩), .int .i64 148, .int .i64 ((x35 : Nat) : Int), .pointer (some ⟨g20, 0, none⟩), .int .i64 148, .int .i64 ((x35 : Nat) : Int), .pointer (some ⟨g26, 0, none⟩), .int .i64 8, .int .i64 (((148 + 8) : Nat) : Int), .string (tx ((s.take (148 + 8)).drop 148)), .tuple #[.int .i64 ((rget_m ((s.take (148 + 8)).drop 148)).1), .int .i64 ((rget_m ((s.take (148 + 8)).drop 148)).2)], .int .i64 ((rget_m ((s.take (148 + 8)).drop 148)).1), .int .i64 ((rget_m ((s.take (148 + 8)).drop 148)).2), .int .i64 ((rget_m ((s.take (148 + 8)).drop 148)).2)] qq undef else List.getD [.bool (decide (¬ (rget_m ((s.take (148 + 8)).drop 148)).2 = 0)), u0 25, u0 26, .int .i64 ((x35 : Nat) : Int), .int .i64 ((rget_m ((s.take (148 + 8)).drop 148)).1), .pointer (some ⟨g32, 0, none⟩), .int .i64 ((x35 : Nat) : Int), .bool true, .bool true, .int .i64 ((rget_m ((s.take (148 + 8)).drop 148)).1), .string (tx s), .int .i64 ((rsum_m s)), .bool (decide (¬ (rget_m ((s.take (148 + 8)).drop 148)).1 = (rsum_m s))), .bool (decide (¬ (rget_m ((s.take (148 + 8)).drop 148)).1 = (rsum_m s))), u0 38] (qq - 24) undef), rfl, (by first | omega | (simp; omega) | (simp at *; omega)), (hi53.trans (show rdecode_m_b0 s (rdecode_m_l0 s k52) x35 x36 x37 x38 x39 x40 x41 x42 x43 x44 x45 x46 x47 x48 x49 x50 = rdecode_m_l0 s k52 ((x35 + 1), x36, x37, x38, x39, x40, x41, x42, x43, x44, (rget_m ((s.take (148 + 8)).drop 148)).1, x46, x47, x48, x49, x50) from by unfold rdecode_m_b0; rw [if_pos hc78, if_pos hx83, if_neg hc88, if_pos hs98, if_neg hc102] <;> rfl)), (by first | omega | (simp; done) | (simp; omega) | (simp at *; omega)), rfl, hm100⟩ ?_)
        omega
      refine wp_seq_k (fun K103 hK103 => ?_)
      refine wp_region_lit ?_
      refine lvw 56 (.agg #[.string (tx ([])), .int .i64 0, .int .i64 0, .int .i64 0, .int .i64 0, .int .i64 0, .int .u8 0, .string (tx ([])), .string (tx ([]))]) rfl rfl (by unfold execOp; go_simp; try (first | rfl | (repeat' (first | rfl | apply And.intro)))) ?_
      simp only [nz1, nz2, nz3]
      refine lst rfl (m_store 0 23 _ _ 0 (.agg #[.string (tx ([])), .int .i64 0, .int .i64 0, .int .i64 0, .int .i64 0, .int .i64 0, .int .u8 0, .string (tx ([])), .string (tx ([]))]) (old := #[.string (tx x36), .int .i64 ((x37 : Nat) : Int), .int .i64 ((x38 : Nat) : Int), .int .i64 ((x39 : Nat) : Int), .int .i64 ((x40 : Nat) : Int), .int .i64 ((x41 : Nat) : Int), .int .u8 ((x42.toNat : Nat) : Int), .string (tx x43), .string (tx x44)]) (new := #[.string (tx ([])), .int .i64 0, .int .i64 0, .int .i64 0, .int .i64 0, .int .i64 0, .int .u8 0, .string (tx ([])), .string (tx ([]))]) hm100 rfl rfl rfl rfl rfl (by exact sz_23) (show 0 + 9 ≤ 9 from by decide) (by simp [Value.cells, Value.oneCell']) rfl (fun w104 (hm105 : Mm none (fun _ => True) w w104 [.blk g4 #[.string (tx ([])), .int .i64 0, .int .i64 0, .int .i64 0, .int .i64 0, .int .i64 0, .int .u8 0, .string (tx ([])), .string (tx ([]))] 23, .blk g20 #[.int .i64 148, .int .i64 100, .int .i64 108, .int .i64 116, .int .i64 124, .int .i64 136] 62, .blk g26 #[.int .i64 8, .int .i64 8, .int .i64 8, .int .i64 8, .int .i64 12, .int .i64 12] 62, .blk g32 #[.int .i64 ((rget_m ((s.take (148 + 8)).drop 148)).1), .int .i64 (x46), .int .i64 (x47), .int .i64 (x48), .int .i64 (x49), .int .i64 (x50)] 62]) => ?_))
      refine lvw 3 (.int .i64 2) rfl rfl (run_as rfl rfl) ?_
      simp only [nz1, nz2, nz3]
      refine wpList_nil ?_
      refine then_n (hK103 _ _ ?_)
      refine wp_ret ?_
      refine blk_r ?_
      refine then_r ?_
      refine then_r ?_
      refine blk_r ?_
      refine then_r ?_
      refine then_r ?_
      have he106 : rdecode_m_l0 s ((6 - 0) + 1) (0, ([]), 0, 0, 0, 0, 0, (UInt8.ofNat 0), ([]), ([]), 0, 0, 0, 0, 0, 0) = .inr ((Hdr.mk ([]) 0 0 0 0 0 (UInt8.ofNat 0) ([]) ([])), 2) := (hi53.trans (show rdecode_m_b0 s (rdecode_m_l0 s k52) x35 x36 x37 x38 x39 x40 x41 x42 x43 x44 x45 x46 x47 x48 x49 x50 = .inr ((Hdr.mk ([]) 0 0 0 0 0 (UInt8.ofNat 0) ([]) ([])), 2) from by unfold rdecode_m_b0; rw [if_pos hc78, if_pos hx83, if_neg hc88, if_pos hs98, if_pos hc102] <;> rfl))
      have he107 : rdecode_m s = ((Hdr.mk ([]) 0 0 0 0 0 (UInt8.ofNat 0) ([]) ([])), 2) := (show rdecode_m s = ((Hdr.mk ([]) 0 0 0 0 0 (UInt8.ofNat 0) ([]) ([])), 2) from by unfold rdecode_m; rw [if_neg hs7, if_neg hc12, he106] <;> rfl)
      exact ⟨rfl, .tuple #[.agg #[.string (tx ([])), .int .i64 0, .int .i64 0, .int .i64 0, .int .i64 0, .int .i64 0, .int .u8 0, .string (tx ([])), .string (tx ([]))], .int .i64 2], Mem.res_ct rfl rfl (hm105.at 0 rfl) Tryd.underlying23 rfl (by exact sz_23) rfl, ⟨by (rw [he107]; try rfl), hm105.below⟩⟩
    by_cases hx108 : x35 = 1
    · refine tk 2 28 (.pointer (some ⟨g20, 1, none⟩)) rfl rfl (fun _ hw => Sx.r_ix g20 1 (by decide) Tryd.underlying62 sz_3 rfl rfl (show (Value.int .i64 ((x35 : Nat) : Int)) = .int .i64 (((1 : Nat)) : Int) from by congr 1; omega)) (⟨hm81.at 1 rfl, hm81.at 2 rfl⟩) ?_
      simp only [nz1, nz2, nz3]
      refine tk 3 29 (.int .i64 100) rfl rfl (fun _ hw => r_load hw.1 rfl Tryd.underlying3 rfl rfl rfl) (⟨hm81.at 1 rfl, hm81.at 2 rfl⟩) ?_
      simp only [nz1, nz2, nz3]
      refine tk 4 30 (.int .i64 ((x35 : Nat) : Int)) rfl rfl (fun _ hw => run_mv rfl rfl) (⟨hm81.at 1 rfl, hm81.at 2 rfl⟩) ?_
      simp only [nz1, nz2, nz3]
      refine tk 5 31 (.pointer (some ⟨g20, 1, none⟩)) rfl rfl (fun _ hw => Sx.r_ix g20 1 (by decide) Tryd.underlying62 sz_3 rfl rfl (show (Value.int .i64 ((x35 : Nat) : Int)) = .int .i64 (((1 : Nat)) : Int) from by congr 1; omega)) (⟨hm81.at 1 rfl, hm81.at 2 rfl⟩) ?_
      simp only [nz1, nz2, nz3]
      refine tk 6 32 (.int .i64 100) rfl rfl (fun _ hw => r_load hw.1 rfl Tryd.underlying3 rfl rfl rfl) (⟨hm81.at 1 rfl, hm81.at 2 rfl⟩) ?_
      simp only [nz1, nz2, nz3]
      refine tk 7 33 (.int .i64 ((x35 : Nat) : Int)) rfl rfl (fun _ hw => run_mv rfl rfl) (⟨hm81.at 1 rfl, hm81.at 2 rfl⟩) ?_
      simp only [nz1, nz2, nz3]
      refine tk 8 34 (.pointer (some ⟨g26, 1, none⟩)) rfl rfl (fun _ hw => Sx.r_ix g26 1 (by decide) Tryd.underlying62 sz_3 rfl rfl (show (Value.int .i64 ((x35 : Nat) : Int)) = .int .i64 (((1 : Nat)) : Int) from by congr 1; omega)) (⟨hm81.at 1 rfl, hm81.at 2 rfl⟩) ?_
      simp only [nz1, nz2, nz3]
      refine tk 9 35 (.int .i64 8) rfl rfl (fun _ hw => r_load hw.2 rfl Tryd.underlying3 rfl rfl rfl) (⟨hm81.at 1 rfl, hm81.at 2 rfl⟩) ?_
      simp only [nz1, nz2, nz3]
      refine tk 10 36 (.int .i64 (((100 + 8) : Nat) : Int)) rfl rfl (fun _ hw => r_add 100 8 (show (100 + 8) < 9223372036854775808 from by omega) rfl rfl rfl) (⟨hm81.at 1 rfl, hm81.at 2 rfl⟩) ?_
      simp only [nz1, nz2, nz3]
      refine tk 11 37 (.string (tx ((s.take (100 + 8)).drop 100))) rfl rfl (fun _ hw => t_cut s 100 (100 + 8) (by omega) (by omega) Tryd.underlying9 rfl rfl rfl rfl) (⟨hm81.at 1 rfl, hm81.at 2 rfl⟩) ?_
      simp only [nz1, nz2, nz3]
      refine one_ready 12 (by kernel_rfl) ?_
      refine opd rfl (wanted_none rfl) (m_call hm81 38 (.tuple #[.int .i64 ((rget_m ((s.take (100 + 8)).drop 100)).1), .int .i64 ((rget_m ((s.take (100 + 8)).drop 100)).2)]) rfl (run_rget rfl rfl) (rget_any ((s.take (100 + 8)).drop 100)  _  (by first | omega | assumption | (rw [List.length_drop]; omega) | (rw [List.length_take]; omega) | (rw [List.length_drop, List.length_take]; omega) | (simp; done) | (simp; omega) | (simp only [List.length_append, List.length_cons, List.length_nil]; omega) | (simp only [List.length_append, List.length_cons, List.length_nil] at *; omega) | decide)) (fun w109 (hm110 : Mm none (fun _ => True) w w109 [.blk g4 #[.string (tx x36), .int .i64 ((x37 : Nat) : Int), .int .i64 ((x38 : Nat) : Int), .int .i64 ((x39 : Nat) : Int), .int .i64 ((x40 : Nat) : Int), .int .i64 ((x41 : Nat) : Int), .int .u8 ((x42.toNat : Nat) : Int), .string (tx x43), .string (tx x44)] 23, .blk g20 #[.int .i64 148, .int .i64 100, .int .i64 108, .int .i64 116, .int .i64 124, .int .i64 136] 62, .blk g26 #[.int .i64 8, .int .i64 8, .int .i64 8, .int .i64 8, .int .i64 12, .int .i64 12] 62, .blk g32 #[.int .i64 (x45), .int .i64 (x46), .int .i64 (x47), .int .i64 (x48), .int .i64 (x49), .int .i64 (x50)] 62]) => ?_))
      refine ⟨⟨hm110.at 1 rfl, hm110.at 2 rfl⟩, ?_⟩
      simp only [nz1, nz2, nz3]
      refine tk 13 25 (.tuple #[.int .i64 ((rget_m ((s.take (100 + 8)).drop 100)).1), .int .i64 ((rget_m ((s.take (100 + 8)).drop 100)).2)]) rfl rfl (fun _ hw => run_mv rfl rfl) (⟨hm110.at 1 rfl, hm110.at 2 rfl⟩) ?_
      simp only [nz1, nz2, nz3]
      refine tk 14 39 (.int .i64 ((rget_m ((s.take (100 + 8)).drop 100)).1)) rfl rfl (fun _ hw => run_ex rfl rfl rfl) (⟨hm110.at 1 rfl, hm110.at 2 rfl⟩) ?_
      simp only [nz1, nz2, nz3]
      refine tk 15 40 (.int .i64 ((rget_m ((s.take (100 + 8)).drop 100)).2)) rfl rfl (fun _ hw => run_ex rfl rfl rfl) (⟨hm110.at 1 rfl, hm110.at 2 rfl⟩) ?_
      simp only [nz1, nz2, nz3]
      refine one_ready 16 (by kernel_rfl) ?_
      refine opd rfl (wanted_none rfl) (w_value 8 (.int .i64 ((rget_m ((s.take (100 + 8)).drop 100)).1)) rfl (run_as rfl rfl) ⟨⟨hm110.at 1 rfl, hm110.at 2 rfl⟩, ?_⟩)
      simp only [nz1, nz2, nz3]
      refine one_ready 17 (by kernel_rfl) ?_
      refine opd rfl (wanted_none rfl) (w_value 9 (.int .i64 ((rget_m ((s.take (100 + 8)).drop 100)).2)) rfl (run_as rfl rfl) ⟨⟨hm110.at 1 rfl, hm110.at 2 rfl⟩, ?_⟩)
      simp only [nz1, nz2, nz3]
      refine wpAnyH_done (by kernel_rfl) ?_ _
      refine then_n (hK80 _ _ ?_)
      refine wp_seq_k (fun K111 hK111 => ?_)
      refine wp_seq_k (fun K112 hK112 => ?_)
      refine wp_region_lit ?_
      refine lvw 41 (.int .i64 ((rget_m ((s.take (100 + 8)).drop 100)).2)) rfl rfl (run_mv rfl rfl) ?_
      simp only [nz1, nz2, nz3]
      refine lvw 42 (.bool (decide (¬ (rget_m ((s.take (100 + 8)).drop 100)).2 = 0))) rfl rfl (z_neq ((rget_m ((s.take (100 + 8)).drop 100)).2) 0 rfl rfl rfl) ?_
      simp only [nz1, nz2, nz3]
      refine wpList_nil ?_
      refine then_n (hK112 _ _ ?_)
      refine cond_d (¬ (rget_m ((s.take (100 + 8)).drop 100)).2 = 0) rfl (fun hc113 => ?_) (fun hc113 => ?_)
      · refine wp_seq_k (fun K114 hK114 => ?_)
        refine wp_region_lit ?_
        refine lvw 43 (.agg #[.string (tx ([])), .int .i64 0, .int .i64 0, .int .i64 0, .int .i64 0, .int .i64 0, .int .u8 0, .string (tx ([])), .string (tx ([]))]) rfl rfl (by unfold execOp; go_simp; try (first | rfl | (repeat' (first | rfl | apply And.intro)))) ?_
        simp only [nz1, nz2, nz3]
        refine lvw 44 (.int .i64 ((rget_m ((s.take (100 + 8)).drop 100)).2)) rfl rfl (run_mv rfl rfl) ?_
        simp only [nz1, nz2, nz3]
        refine lst rfl (m_store 0 23 _ _ 0 (.agg #[.string (tx ([])), .int .i64 0, .int .i64 0, .int .i64 0, .int .i64 0, .int .i64 0, .int .u8 0, .string (tx ([])), .string (tx ([]))]) (old := #[.string (tx x36), .int .i64 ((x37 : Nat) : Int), .int .i64 ((x38 : Nat) : Int), .int .i64 ((x39 : Nat) : Int), .int .i64 ((x40 : Nat) : Int), .int .i64 ((x41 : Nat) : Int), .int .u8 ((x42.toNat : Nat) : Int), .string (tx x43), .string (tx x44)]) (new := #[.string (tx ([])), .int .i64 0, .int .i64 0, .int .i64 0, .int .i64 0, .int .i64 0, .int .u8 0, .string (tx ([])), .string (tx ([]))]) hm110 rfl rfl rfl rfl rfl (by exact sz_23) (show 0 + 9 ≤ 9 from by decide) (by simp [Value.cells, Value.oneCell']) rfl (fun w115 (hm116 : Mm none (fun _ => True) w w115 [.blk g4 #[.string (tx ([])), .int .i64 0, .int .i64 0, .int .i64 0, .int .i64 0, .int .i64 0, .int .u8 0, .string (tx ([])), .string (tx ([]))] 23, .blk g20 #[.int .i64 148, .int .i64 100, .int .i64 108, .int .i64 116, .int .i64 124, .int .i64 136] 62, .blk g26 #[.int .i64 8, .int .i64 8, .int .i64 8, .int .i64 8, .int .i64 12, .int .i64 12] 62, .blk g32 #[.int .i64 (x45), .int .i64 (x46), .int .i64 (x47), .int .i64 (x48), .int .i64 (x49), .int .i64 (x50)] 62]) => ?_))
        refine lvw 3 (.int .i64 ((rget_m ((s.take (100 + 8)).drop 100)).2)) rfl rfl (run_as rfl rfl) ?_
        simp only [nz1, nz2, nz3]
        refine wpList_nil ?_
        refine then_n (hK114 _ _ ?_)
        refine wp_ret ?_
        refine then_r ?_
        refine blk_r ?_
        refine then_r ?_
        refine then_r ?_
        refine blk_r ?_
        refine then_r ?_
        refine then_r ?_
        have he117 : rdecode_m_l0 s ((6 - 0) + 1) (0, ([]), 0, 0, 0, 0, 0, (UInt8.ofNat 0), ([]), ([]), 0, 0, 0, 0, 0, 0) = .inr ((Hdr.mk ([]) 0 0 0 0 0 (UInt8.ofNat 0) ([]) ([])), (rget_m ((s.take (100 + 8)).drop 100)).2) := (hi53.trans (show rdecode_m_b0 s (rdecode_m_l0 s k52) x35 x36 x37 x38 x39 x40 x41 x42 x43 x44 x45 x46 x47 x48 x49 x50 = .inr ((Hdr.mk ([]) 0 0 0 0 0 (UInt8.ofNat 0) ([]) ([])), (rget_m ((s.take (100 + 8)).drop 100)).2) from by unfold rdecode_m_b0; rw [if_pos hc78, if_neg hx83, if_pos hx108, if_pos hc113] <;> rfl))
        have he118 : rdecode_m s = ((Hdr.mk ([]) 0 0 0 0 0 (UInt8.ofNat 0) ([]) ([])), (rget_m ((s.take (100 + 8)).drop 100)).2) := (show rdecode_m s = ((Hdr.mk ([]) 0 0 0 0 0 (UInt8.ofNat 0) ([]) ([])), (rget_m ((s.take (100 + 8)).drop 100)).2) from by unfold rdecode_m; rw [if_neg hs7, if_neg hc12, he117] <;> rfl)
        exact ⟨rfl, .tuple #[.agg #[.string (tx ([])), .int .i64 0, .int .i64 0, .int .i64 0, .int .i64 0, .int .i64 0, .int .u8 0, .string (tx ([])), .string (tx ([]))], .int .i64 ((rget_m ((s.take (100 + 8)).drop 100)).2)], Mem.res_ct rfl rfl (hm116.at 0 rfl) Tryd.underlying23 rfl (by exact sz_23) rfl, ⟨by (rw [he118]; try rfl), hm116.below⟩⟩
      refine wp_skip ?_
      refine then_n (hK111 _ _ ?_)
      refine wp_seq_k (fun K119 hK119 => ?_)
      refine wp_region_lit ?_
      refine lvw 45 (.int .i64 ((x35 : Nat) : Int)) rfl rfl (run_mv rfl rfl) ?_
      simp only [nz1, nz2, nz3]
      refine lvw 46 (.int .i64 ((rget_m ((s.take (100 + 8)).drop 100)).1)) rfl rfl (run_mv rfl rfl) ?_
      simp only [nz1, nz2, nz3]
      refine lvw 47 (.pointer (some ⟨g32, 1, none⟩)) rfl rfl (Sx.r_ix g32 1 (by decide) Tryd.underlying62 sz_3 rfl rfl (show (Value.int .i64 ((x35 : Nat) : Int)) = .int .i64 (((1 : Nat)) : Int) from by congr 1; omega)) ?_
      simp only [nz1, nz2, nz3]
      refine lst rfl (m_store 3 3 _ _ 1 (.int .i64 ((rget_m ((s.take (100 + 8)).drop 100)).1)) (old := #[.int .i64 (x45), .int .i64 (x46), .int .i64 (x47), .int .i64 (x48), .int .i64 (x49), .int .i64 (x50)]) (new := #[.int .i64 (x45), .int .i64 ((rget_m ((s.take (100 + 8)).drop 100)).1), .int .i64 (x47), .int .i64 (x48), .int .i64 (x49), .int .i64 (x50)]) hm110 rfl rfl rfl rfl rfl (by exact sz_3) (show 1 + 1 ≤ 6 from by decide) (one_all rfl) rfl (fun w120 (hm121 : Mm none (fun _ => True) w w120 [.blk g4 #[.string (tx x36), .int .i64 ((x37 : Nat) : Int), .int .i64 ((x38 : Nat) : Int), .int .i64 ((x39 : Nat) : Int), .int .i64 ((x40 : Nat) : Int), .int .i64 ((x41 : Nat) : Int), .int .u8 ((x42.toNat : Nat) : Int), .string (tx x43), .string (tx x44)] 23, .blk g20 #[.int .i64 148, .int .i64 100, .int .i64 108, .int .i64 116, .int .i64 124, .int .i64 136] 62, .blk g26 #[.int .i64 8, .int .i64 8, .int .i64 8, .int .i64 8, .int .i64 12, .int .i64 12] 62, .blk g32 #[.int .i64 (x45), .int .i64 ((rget_m ((s.take (100 + 8)).drop 100)).1), .int .i64 (x47), .int .i64 (x48), .int .i64 (x49), .int .i64 (x50)] 62]) => ?_))
      refine wpList_nil ?_
      refine then_n (hK119 _ _ ?_)
      refine wp_seq_k (fun K122 hK122 => ?_)
      refine wp_region_lit ?_
      refine lvw 48 (.int .i64 ((x35 : Nat) : Int)) rfl rfl (run_mv rfl rfl) ?_
      simp only [nz1, nz2, nz3]
      refine lvb 49 (x35 = 0) rfl rfl (r_eql x35 0 rfl rfl rfl) (fun hs123 => ?_) (fun hs123 => ?_)
      rotate_left
      · simp only [nz1, nz2, nz3]
        refine lvw 50 (.bool false) rfl rfl (run_mv rfl rfl) ?_
        simp only [nz1, nz2, nz3]
        refine lst_skip 51 rfl rfl ?_
        simp only [nz1, nz2, nz3]
        refine lst_skip 52 rfl rfl ?_
        simp only [nz1, nz2, nz3]
        refine lst_skip 53 rfl rfl ?_
        simp only [nz1, nz2, nz3]
        refine lst_skip 54 rfl rfl ?_
        simp only [nz1, nz2, nz3]
        refine lvw 55 (.bool false) rfl rfl (run_pickf rfl rfl rfl) ?_
        simp only [nz1, nz2, nz3]
        refine wpList_nil ?_
        refine then_n (hK122 _ _ ?_)
        refine cond_f rfl ?_
        refine wp_skip ?_
        refine blk_n ?_
        refine then_n (hK79 _ _ ?_)
        refine wp_region_lit ?_
        refine lvw 23 (.int .i64 ((x35 : Nat) : Int)) rfl rfl (run_mv rfl rfl) ?_
        simp only [nz1, nz2, nz3]
        refine lvw 24 (.int .i64 (((x35 + 1) : Nat) : Int)) rfl rfl (r_add x35 1 (show (x35 + 1) < 9223372036854775808 from by omega) rfl rfl rfl) ?_
        simp only [nz1, nz2, nz3]
        refine lvw 7 (.int .i64 (((x35 + 1) : Nat) : Int)) rfl rfl (run_as rfl rfl) ?_
        simp only [nz1, nz2, nz3]
        refine wpList_nil ?_
        refine then_n (hR73 _ _ _ ⟨k52, (x35 + 1), x36, x37, x38, x39, x40, x41, x42, x43, x44, x45, (rget_m ((s.take (100 + 8)).drop 100)).1, x47, x48, x49, x50, (fun qq => bif Nat.blt qq 24 then List.getD [u0 0, .int .i64 ((rget_m ((s.take (100 + 8)).drop 100)).1), .int .i64 ((rget_m ((s.take (100 + 8)).drop 100)).2), .int .i64 ((x35 : Nat) : Int), .bool (decide (x35 < 6)), .int .i64 ((x35 : Nat) : Int), .int .i64 (((x35 + 1) : Nat) : Int), .tuple #[.int .i64 ((rget_m ((s.take (100 + 8)).drop 100)).1), .int .i64 ((rget_m ((s.take (100 + 8)).drop 100)).2)], .string (tx s), .int .i64 ((x35 : Nat) : Int), .pointer (some ⟨g20, 1, none⟩), .int .i64 100, .int .i64 ((x35 : Nat) : Int), .pointer (some ⟨g20, 1, none⟩), .int .i64 100, .int .i64 ((x35 : Nat) : Int), .pointer (some ⟨g26, 1, none⟩), .int .i64 8, .int .i64 (((100 + 8) : Nat) : Int), .string (tx ((s.take (100 + 8)).drop 100)), .tuple #[.int .i64 ((rget_m ((s.take (100 + 8)).drop 100)).1), .int .i64 ((rget_m ((s.take (100 + 8)).drop 100)).2)], .int .i64 ((rget_m ((s.take (100 + 8)).drop 100)).1), .int .i64 ((rget_m ((s.take (100 + 8)).drop 100)).2), .int .i64 ((rget_m ((s.take (100 + 8)).drop 100)).2)] qq undef else List.getD [.bool (decide (¬ (rget_m ((s.take (100 + 8)).drop 100)).2 = 0)), u0 25, u0 26, .int .i64 ((x35 : Nat) : Int), .int .i64 ((rget_m ((s.take (100 + 8)).drop 100)).1), .pointer (some ⟨g32, 1, none⟩), .int .i64 ((x35 : Nat) : Int), .bool false, .bool false, undef, undef, undef, undef, .bool false, u0 38] (qq - 24) undef), rfl, (by first | omega | (simp; omega) | (simp at *; omega)), (hi53.trans (show rdecode_m_b0 s (rdecode_m_l0 s k52) x35 x36 x37 x38 x39 x40 x41 x42 x43 x44 x45 x46 x47 x48 x49 x50 = rdecode_m_l0 s k52 ((x35 + 1), x36, x37, x38, x39, x40, x41, x42, x43, x44, x45, (rget_m ((s.take (100 + 8)).drop 100)).1, x47, x48, x49, x50) from by unfold rdecode_m_b0; rw [if_pos hc78, if_neg hx83, if_pos hx108, if_neg hc113, if_neg hs123] <;> rfl)), (by first | omega | (simp; done) | (simp; omega) | (simp at *; omega)), rfl, hm121⟩ ?_)
        omega
      simp only [nz1, nz2, nz3]
      refine lvw 50 (.bool true) rfl rfl (run_mv rfl rfl) ?_
      simp only [nz1, nz2, nz3]
      refine lvw 51 (.int .i64 ((rget_m ((s.take (100 + 8)).drop 100)).1)) rfl rfl (run_mv rfl rfl) ?_
      simp only [nz1, nz2, nz3]
      refine lvw 52 (.string (tx s)) rfl rfl (run_mv rfl rfl) ?_
      simp only [nz1, nz2, nz3]
      refine lst rfl (m_call hm121 53 (.int .i64 ((rsum_m s))) rfl (run_rsum rfl rfl) (rsum_any s  _  ) (fun w124 (hm125 : Mm none (fun _ => True) w w124 [.blk g4 #[.string (tx x36), .int .i64 ((x37 : Nat) : Int), .int .i64 ((x38 : Nat) : Int), .int .i64 ((x39 : Nat) : Int), .int .i64 ((x40 : Nat) : Int), .int .i64 ((x41 : Nat) : Int), .int .u8 ((x42.toNat : Nat) : Int), .string (tx x43), .string (tx x44)] 23, .blk g20 #[.int .i64 148, .int .i64 100, .int .i64 108, .int .i64 116, .int .i64 124, .int .i64 136] 62, .blk g26 #[.int .i64 8, .int .i64 8, .int .i64 8, .int .i64 8, .int .i64 12, .int .i64 12] 62, .blk g32 #[.int .i64 (x45), .int .i64 ((rget_m ((s.take (100 + 8)).drop 100)).1), .int .i64 (x47), .int .i64 (x48), .int .i64 (x49), .int .i64 (x50)] 62]) => ?_))
      have hf126 : 0 ≤ (rsum_m s) ∧ (rsum_m s) ≤ 131072 := rsum_rng s
      simp only [nz1, nz2, nz3]
      refine lvw 54 (.bool (decide (¬ (rget_m ((s.take (100 + 8)).drop 100)).1 = (rsum_m s)))) rfl rfl (z_neq ((rget_m ((s.take (100 + 8)).drop 100)).1) (rsum_m s) rfl rfl rfl) ?_
      simp only [nz1, nz2, nz3]
      refine lvw 55 (.bool (decide (¬ (rget_m ((s.take (100 + 8)).drop 100)).1 = (rsum_m s)))) rfl rfl (run_pick rfl rfl rfl) ?_
      simp only [nz1, nz2, nz3]
      refine wpList_nil ?_
      refine then_n (hK122 _ _ ?_)
      refine cond_d (¬ (rget_m ((s.take (100 + 8)).drop 100)).1 = (rsum_m s)) rfl (fun hc127 => ?_) (fun hc127 => ?_)
      rotate_left
      · refine wp_skip ?_
        refine blk_n ?_
        refine then_n (hK79 _ _ ?_)
        refine wp_region_lit ?_
        refine lvw 23 (.int .i64 ((x35 : Nat) : Int)) rfl rfl (run_mv rfl rfl) ?_
        simp only [nz1, nz2, nz3]
        refine lvw 24 (.int .i64 (((x35 + 1) : Nat) : Int)) rfl rfl (r_add x35 1 (show (x35 + 1) < 9223372036854775808 from by omega) rfl rfl rfl) ?_
        simp only [nz1, nz2, nz3]
        refine lvw 7 (.int .i64 (((x35 + 1) : Nat) : Int)) rfl rfl (run_as rfl rfl) ?_
        simp only [nz1, nz2, nz3]
        refine wpList_nil ?_
        refine then_n (hR73 _ _ _ ⟨k52, (x35 + 1), x36, x37, x38, x39, x40, x41, x42, x43, x44, x45, (rget_m ((s.take (100 + 8)).drop 100)).1, x47, x48, x49, x50, (fun qq => bif Nat.blt qq 24 then List.getD [u0 0, .int .i64 ((rget_m ((s.take (100 + 8)).drop 100)).1), .int .i64 ((rget_m ((s.take (100 + 8)).drop 100)).2), .int .i64 ((x35 : Nat) : Int), .bool (decide (x35 < 6)), .int .i64 ((x35 : Nat) : Int), .int .i64 (((x35 + 1) : Nat) : Int), .tuple #[.int .i64 ((rget_m ((s.take (100 + 8)).drop 100)).1), .int .i64 ((rget_m ((s.take (100 + 8)).drop 100)).2)], .string (tx s), .int .i64 ((x35 : Nat) : Int), .pointer (some ⟨g20, 1, none⟩), .int .i64 100, .int .i64 ((x35 : Nat) : Int), .pointer (some ⟨g20, 1, none⟩), .int .i64 100, .int .i64 ((x35 : Nat) : Int), .pointer (some ⟨g26, 1, none⟩), .int .i64 8, .int .i64 (((100 + 8) : Nat) : Int), .string (tx ((s.take (100 + 8)).drop 100)), .tuple #[.int .i64 ((rget_m ((s.take (100 + 8)).drop 100)).1), .int .i64 ((rget_m ((s.take (100 + 8)).drop 100)).2)], .int .i64 ((rget_m ((s.take (100 + 8)).drop 100)).1), .int .i64 ((rget_m ((s.take (100 + 8)).drop 100)).2), .int .i64 ((rget_m ((s.take (100 + 8)).drop 100)).2)] qq undef else List.getD [.bool (decide (¬ (rget_m ((s.take (100 + 8)).drop 100)).2 = 0)), u0 25, u0 26, .int .i64 ((x35 : Nat) : Int), .int .i64 ((rget_m ((s.take (100 + 8)).drop 100)).1), .pointer (some ⟨g32, 1, none⟩), .int .i64 ((x35 : Nat) : Int), .bool true, .bool true, .int .i64 ((rget_m ((s.take (100 + 8)).drop 100)).1), .string (tx s), .int .i64 ((rsum_m s)), .bool (decide (¬ (rget_m ((s.take (100 + 8)).drop 100)).1 = (rsum_m s))), .bool (decide (¬ (rget_m ((s.take (100 + 8)).drop 100)).1 = (rsum_m s))), u0 38] (qq - 24) undef), rfl, (by first | omega | (simp; omega) | (simp at *; omega)), (hi53.trans (show rdecode_m_b0 s (rdecode_m_l0 s k52) x35 x36 x37 x38 x39 x40 x41 x42 x43 x44 x45 x46 x47 x48 x49 x50 = rdecode_m_l0 s k52 ((x35 + 1), x36, x37, x38, x39, x40, x41, x42, x43, x44, x45, (rget_m ((s.take (100 + 8)).drop 100)).1, x47, x48, x49, x50) from by unfold rdecode_m_b0; rw [if_pos hc78, if_neg hx83, if_pos hx108, if_neg hc113, if_pos hs123, if_neg hc127] <;> rfl)), (by first | omega | (simp; done) | (simp; omega) | (simp at *; omega)), rfl, hm125⟩ ?_)
        omega
      refine wp_seq_k (fun K128 hK128 => ?_)
      refine wp_region_lit ?_
      refine lvw 56 (.agg #[.string (tx ([])), .int .i64 0, .int .i64 0, .int .i64 0, .int .i64 0, .int .i64 0, .int .u8 0, .string (tx ([])), .string (tx ([]))]) rfl rfl (by unfold execOp; go_simp; try (first | rfl | (repeat' (first | rfl | apply And.intro)))) ?_
      simp only [nz1, nz2, nz3]
      refine lst rfl (m_store 0 23 _ _ 0 (.agg #[.string (tx ([])), .int .i64 0, .int .i64 0, .int .i64 0, .int .i64 0, .int .i64 0, .int .u8 0, .string (tx ([])), .string (tx ([]))]) (old := #[.string (tx x36), .int .i64 ((x37 : Nat) : Int), .int .i64 ((x38 : Nat) : Int), .int .i64 ((x39 : Nat) : Int), .int .i64 ((x40 : Nat) : Int), .int .i64 ((x41 : Nat) : Int), .int .u8 ((x42.toNat : Nat) : Int), .string (tx x43), .string (tx x44)]) (new := #[.string (tx ([])), .int .i64 0, .int .i64 0, .int .i64 0, .int .i64 0, .int .i64 0, .int .u8 0, .string (tx ([])), .string (tx ([]))]) hm125 rfl rfl rfl rfl rfl (by exact sz_23) (show 0 + 9 ≤ 9 from by decide) (by simp [Value.cells, Value.oneCell']) rfl (fun w129 (hm130 : Mm none (fun _ => True) w w129 [.blk g4 #[.string (tx ([])), .int .i64 0, .int .i64 0, .int .i64 0, .int .i64 0, .int .i64 0, .int .u8 0, .string (tx ([])), .string (tx ([]))] 23, .blk g20 #[.int .i64 148, .int .i64 100, .int .i64 108, .int .i64 116, .int .i64 124, .int .i64 136] 62, .blk g26 #[.int .i64 8, .int .i64 8, .int .i64 8, .int .i64 8, .int .i64 12, .int .i64 12] 62, .blk g32 #[.int .i64 (x45), .int .i64 ((rget_m ((s.take (100 + 8)).drop 100)).1), .int .i64 (x47), .int .i64 (x48), .int .i64 (x49), .int .i64 (x50)] 62]) => ?_))
      refine lvw 3 (.int .i64 2) rfl rfl (run_as rfl rfl) ?_
      simp only [nz1, nz2, nz3]
      refine wpList_nil ?_
      refine then_n (hK128 _ _ ?_)
      refine wp_ret ?_
      refine blk_r ?_
      refine then_r ?_
      refine then_r ?_
      refine blk_r ?_
      refine then_r ?_
      refine then_r ?_
      have he131 : rdecode_m_l0 s ((6 - 0) + 1) (0, ([]), 0, 0, 0, 0, 0, (UInt8.ofNat 0), ([]), ([]), 0, 0, 0, 0, 0, 0) = .inr ((Hdr.mk ([]) 0 0 0 0 0 (UInt8.ofNat 0) ([]) ([])), 2) := (hi53.trans (show rdecode_m_b0 s (rdecode_m_l0 s k52) x35 x36 x37 x38 x39 x40 x41 x42 x43 x44 x45 x46 x47 x48 x49 x50 = .inr ((Hdr.mk ([]) 0 0 0 0 0 (UInt8.ofNat 0) ([]) ([])), 2) from by unfold rdecode_m_b0; rw [if_pos hc78, if_neg hx83, if_pos hx108, if_neg hc113, if_pos hs123, if_pos hc127] <;> rfl))
      have he132 : rdecode_m s = ((Hdr.mk ([]) 0 0 0 0 0 (UInt8.ofNat 0) ([]) ([])), 2) := (show rdecode_m s = ((Hdr.mk ([]) 0 0 0 0 0 (UInt8.ofNat 0) ([]) ([])), 2) from by unfold rdecode_m; rw [if_neg hs7, if_neg hc12, he131] <;> rfl)
      exact ⟨rfl, .tuple #[.agg #[.string (tx ([])), .int .i64 0, .int .i64 0, .int .i64 0, .int .i64 0, .int .i64 0, .int .u8 0, .string (tx ([])), .string (tx ([]))], .int .i64 2], Mem.res_ct rfl rfl (hm130.at 0 rfl) Tryd.underlying23 rfl (by exact sz_23) rfl, ⟨by (rw [he132]; try rfl), hm130.below⟩⟩
    by_cases hx133 : x35 = 2
    · refine tk 2 28 (.pointer (some ⟨g20, 2, none⟩)) rfl rfl (fun _ hw => Sx.r_ix g20 2 (by decide) Tryd.underlying62 sz_3 rfl rfl (show (Value.int .i64 ((x35 : Nat) : Int)) = .int .i64 (((2 : Nat)) : Int) from by congr 1; omega)) (⟨hm81.at 1 rfl, hm81.at 2 rfl⟩) ?_
      simp only [nz1, nz2, nz3]
      refine tk 3 29 (.int .i64 108) rfl rfl (fun _ hw => r_load hw.1 rfl Tryd.underlying3 rfl rfl rfl) (⟨hm81.at 1 rfl, hm81.at 2 rfl⟩) ?_
      simp only [nz1, nz2, nz3]
      refine tk 4 30 (.int .i64 ((x35 : Nat) : Int)) rfl rfl (fun _ hw => run_mv rfl rfl) (⟨hm81.at 1 rfl, hm81.at 2 rfl⟩) ?_
      simp only [nz1, nz2, nz3]
      refine tk 5 31 (.pointer (some ⟨g20, 2, none⟩)) rfl rfl (fun _ hw => Sx.r_ix g20 2 (by decide) Tryd.underlying62 sz_3 rfl rfl (show (Value.int .i64 ((x35 : Nat) : Int)) = .int .i64 (((2 : Nat)) : Int) from by congr 1; omega)) (⟨hm81.at 1 rfl, hm81.at 2 rfl⟩) ?_
      simp only [nz1, nz2, nz3]
      refine tk 6 32 (.int .i64 108) rfl rfl (fun _ hw => r_load hw.1 rfl Tryd.underlying3 rfl rfl rfl) (⟨hm81.at 1 rfl, hm81.at 2 rfl⟩) ?_
      simp only [nz1, nz2, nz3]
      refine tk 7 33 (.int .i64 ((x35 : Nat) : Int)) rfl rfl (fun _ hw => run_mv rfl rfl) (⟨hm81.at 1 rfl, hm81.at 2 rfl⟩) ?_
      simp only [nz1, nz2, nz3]
      refine tk 8 34 (.pointer (some ⟨g26, 2, none⟩)) rfl rfl (fun _ hw => Sx.r_ix g26 2 (by decide) Tryd.underlying62 sz_3 rfl rfl (show (Value.int .i64 ((x35 : Nat) : Int)) = .int .i64 (((2 : Nat)) : Int) from by congr 1; omega)) (⟨hm81.at 1 rfl, hm81.at 2 rfl⟩) ?_
      simp only [nz1, nz2, nz3]
      refine tk 9 35 (.int .i64 8) rfl rfl (fun _ hw => r_load hw.2 rfl Tryd.underlying3 rfl rfl rfl) (⟨hm81.at 1 rfl, hm81.at 2 rfl⟩) ?_
      simp only [nz1, nz2, nz3]
      refine tk 10 36 (.int .i64 (((108 + 8) : Nat) : Int)) rfl rfl (fun _ hw => r_add 108 8 (show (108 + 8) < 9223372036854775808 from by omega) rfl rfl rfl) (⟨hm81.at 1 rfl, hm81.at 2 rfl⟩) ?_
      simp only [nz1, nz2, nz3]
      refine tk 11 37 (.string (tx ((s.take (108 + 8)).drop 108))) rfl rfl (fun _ hw => t_cut s 108 (108 + 8) (by omega) (by omega) Tryd.underlying9 rfl rfl rfl rfl) (⟨hm81.at 1 rfl, hm81.at 2 rfl⟩) ?_
      simp only [nz1, nz2, nz3]
      refine one_ready 12 (by kernel_rfl) ?_
      refine opd rfl (wanted_none rfl) (m_call hm81 38 (.tuple #[.int .i64 ((rget_m ((s.take (108 + 8)).drop 108)).1), .int .i64 ((rget_m ((s.take (108 + 8)).drop 108)).2)]) rfl (run_rget rfl rfl) (rget_any ((s.take (108 + 8)).drop 108)  _  (by first | omega | assumption | (rw [List.length_drop]; omega) | (rw [List.length_take]; omega) | (rw [List.length_drop, List.length_take]; omega) | (simp; done) | (simp; omega) | (simp only [List.length_append, List.length_cons, List.length_nil]; omega) | (simp only [List.length_append, List.length_cons, List.length_nil] at *; omega) | decide)) (fun w134 (hm135 : Mm none (fun _ => True) w w134 [.blk g4 #[.string (tx x36), .int .i64 ((x37 : Nat) : Int), .int .i64 ((x38 : Nat) : Int), .int .i64 ((x39 : Nat) : Int), .int .i64 ((x40 : Nat) : Int), .int .i64 ((x41 : Nat) : Int), .int .u8 ((x42.toNat : Nat) : Int), .string (tx x43), .string (tx x44)] 23, .blk g20 #[.int .i64 148, .int .i64 100, .int .i64 108, .int .i64 116, .int .i64 124, .int .i64 136] 62, .blk g26 #[.int .i64 8, .int .i64 8, .int .i64 8, .int .i64 8, .int .i64 12, .int .i64 12] 62, .blk g32 #[.int .i64 (x45), .int .i64 (x46), .int .i64 (x47), .int .i64 (x48), .int .i64 (x49), .int .i64 (x50)] 62]) => ?_))
      refine ⟨⟨hm135.at 1 rfl, hm135.at 2 rfl⟩, ?_⟩
      simp only [nz1, nz2, nz3]
      refine tk 13 25 (.tuple #[.int .i64 ((rget_m ((s.take (108 + 8)).drop 108)).1), .int .i64 ((rget_m ((s.take (108 + 8)).drop 108)).2)]) rfl rfl (fun _ hw => run_mv rfl rfl) (⟨hm135.at 1 rfl, hm135.at 2 rfl⟩) ?_
      simp only [nz1, nz2, nz3]
      refine tk 14 39 (.int .i64 ((rget_m ((s.take (108 + 8)).drop 108)).1)) rfl rfl (fun _ hw => run_ex rfl rfl rfl) (⟨hm135.at 1 rfl, hm135.at 2 rfl⟩) ?_
      simp only [nz1, nz2, nz3]
      refine tk 15 40 (.int .i64 ((rget_m ((s.take (108 + 8)).drop 108)).2)) rfl rfl (fun _ hw => run_ex rfl rfl rfl) (⟨hm135.at 1 rfl, hm135.at 2 rfl⟩) ?_
      simp only [nz1, nz2, nz3]
      refine one_ready 16 (by kernel_rfl) ?_
      refine opd rfl (wanted_none rfl) (w_value 8 (.int .i64 ((rget_m ((s.take (108 + 8)).drop 108)).1)) rfl (run_as rfl rfl) ⟨⟨hm135.at 1 rfl, hm135.at 2 rfl⟩, ?_⟩)
      simp only [nz1, nz2, nz3]
      refine one_ready 17 (by kernel_rfl) ?_
      refine opd rfl (wanted_none rfl) (w_value 9 (.int .i64 ((rget_m ((s.take (108 + 8)).drop 108)).2)) rfl (run_as rfl rfl) ⟨⟨hm135.at 1 rfl, hm135.at 2 rfl⟩, ?_⟩)
      simp only [nz1, nz2, nz3]
      refine wpAnyH_done (by kernel_rfl) ?_ _
      refine then_n (hK80 _ _ ?_)
      refine wp_seq_k (fun K136 hK136 => ?_)
      refine wp_seq_k (fun K137 hK137 => ?_)
      refine wp_region_lit ?_
      refine lvw 41 (.int .i64 ((rget_m ((s.take (108 + 8)).drop 108)).2)) rfl rfl (run_mv rfl rfl) ?_
      simp only [nz1, nz2, nz3]
      refine lvw 42 (.bool (decide (¬ (rget_m ((s.take (108 + 8)).drop 108)).2 = 0))) rfl rfl (z_neq ((rget_m ((s.take (108 + 8)).drop 108)).2) 0 rfl rfl rfl) ?_
      simp only [nz1, nz2, nz3]
      refine wpList_nil ?_
      refine then_n (hK137 _ _ ?_)
      refine cond_d (¬ (rget_m ((s.take (108 + 8)).drop 108)).2 = 0) rfl (fun hc138 => ?_) (fun hc138 => ?_)
      · refine wp_seq_k (fun K139 hK139 => ?_)
        refine wp_region_lit ?_
        refine lvw 43 (.agg #[.string (tx ([])), .int .i64 0, .int .i64 0, .int .i64 0, .int .i64 0, .int .i64 0, .int .u8 0, .string (tx ([])), .string (tx ([]))]) rfl rfl (by unfold execOp; go_simp; try (first | rfl | (repeat' (first | rfl | apply And.intro)))) ?_
        simp only [nz1, nz2, nz3]
        refine lvw 44 (.int .i64 ((rget_m ((s.take (108 + 8)).drop 108)).2)) rfl rfl (run_mv rfl rfl) ?_
        simp only [nz1, nz2, nz3]
        refine lst rfl (m_store 0 23 _ _ 0 (.agg #[.string (tx ([])), .int .i64 0, .int .i64 0, .int .i64 0, .int .i64 0, .int .i64 0, .int .u8 0, .string (tx ([])), .string (tx ([]))]) (old := #[.string (tx x36), .int .i64 ((x37 : Nat) : Int), .int .i64 ((x38 : Nat) : Int), .int .i64 ((x39 : Nat) : Int), .int .i64 ((x40 : Nat) : Int), .int .i64 ((x41 : Nat) : Int), .int .u8 ((x42.toNat : Nat) : Int), .string (tx x43), .string (tx x44)]) (new := #[.string (tx ([])), .int .i64 0, .int .i64 0, .int .i64 0, .int .i64 0, .int .i64 0, .int .u8 0, .string (tx ([])), .string (tx ([]))]) hm135 rfl rfl rfl rfl rfl (by exact sz_23) (show 0 + 9 ≤ 9 from by decide) (by simp [Value.cells, Value.oneCell']) rfl (fun w140 (hm141 : Mm none (fun _ => True) w w140 [.blk g4 #[.string (tx ([])), .int .i64 0, .int .i64 0, .int .i64 0, .int .i64 0, .int .i64 0, .int .u8 0, .string (tx ([])), .string (tx ([]))] 23, .blk g20 #[.int .i64 148, .int .i64 100, .int .i64 108, .int .i64 116, .int .i64 124, .int .i64 136] 62, .blk g26 #[.int .i64 8, .int .i64 8, .int .i64 8, .int .i64 8, .int .i64 12, .int .i64 12] 62, .blk g32 #[.int .i64 (x45), .int .i64 (x46), .int .i64 (x47), .int .i64 (x48), .int .i64 (x49), .int .i64 (x50)] 62]) => ?_))
        refine lvw 3 (.int .i64 ((rget_m ((s.take (108 + 8)).drop 108)).2)) rfl rfl (run_as rfl rfl) ?_
        simp only [nz1, nz2, nz3]
        refine wpList_nil ?_
        refine then_n (hK139 _ _ ?_)
        refine wp_ret ?_
        refine then_r ?_
        refine blk_r ?_
        refine then_r ?_
        refine then_r ?_
        refine blk_r ?_
        refine then_r ?_
        refine then_r ?_
        have he142 : rdecode_m_l0 s ((6 - 0) + 1) (0, ([]), 0, 0, 0, 0, 0, (UInt8.ofNat 0), ([]), ([]), 0, 0, 0, 0, 0, 0) = .inr ((Hdr.mk ([]) 0 0 0 0 0 (UInt8.ofNat 0) ([]) ([])), (rget_m ((s.take (108 + 8)).drop 108)).2) := (hi53.trans (show rdecode_m_b0 s (rdecode_m_l0 s k52) x35 x36 x37 x38 x39 x40 x41 x42 x43 x44 x45 x46 x47 x48 x49 x50 = .inr ((Hdr.mk ([]) 0 0 0 0 0 (UInt8.ofNat 0) ([]) ([])), (rget_m ((s.take (108 + 8)).drop 108)).2) from by unfold rdecode_m_b0; rw [if_pos hc78, if_neg hx83, if_neg hx108, if_pos hx133, if_pos hc138] <;> rfl))
        have he143 : rdecode_m s = ((Hdr.mk ([]) 0 0 0 0 0 (UInt8.ofNat 0) ([]) ([])), (rget_m ((s.take (108 + 8)).drop 108)).2) := (show rdecode_m s = ((Hdr.mk ([]) 0 0 0 0 0 (UInt8.ofNat 0) ([]) ([])), (rget_m ((s.take (108 + 8)).drop 108)).2) from by unfold rdecode_m; rw [if_neg hs7, if_neg hc12, he142] <;> rfl)
        exact ⟨rfl, .tuple #[.agg #[.string (tx ([])), .int .i64 0, .int .i64 0, .int .i64 0, .int .i64 0, .int .i64 0, .int .u8 0, .string (tx ([])), .string (tx ([]))], .int .i64 ((rget_m ((s.take (108 + 8)).drop 108)).2)], Mem.res_ct rfl rfl (hm141.at 0 rfl) Tryd.underlying23 rfl (by exact sz_23) rfl, ⟨by (rw [he143]; try rfl), hm141.below⟩⟩
      refine wp_skip ?_
      refine then_n (hK136 _ _ ?_)
      refine wp_seq_k (fun K144 hK144 => ?_)
      refine wp_region_lit ?_
      refine lvw 45 (.int .i64 ((x35 : Nat) : Int)) rfl rfl (run_mv rfl rfl) ?_
      simp only [nz1, nz2, nz3]
      refine lvw 46 (.int .i64 ((rget_m ((s.take (108 + 8)).drop 108)).1)) rfl rfl (run_mv rfl rfl) ?_
      simp only [nz1, nz2, nz3]
      refine lvw 47 (.pointer (some ⟨g32, 2, none⟩)) rfl rfl (Sx.r_ix g32 2 (by decide) Tryd.underlying62 sz_3 rfl rfl (show (Value.int .i64 ((x35 : Nat) : Int)) = .int .i64 (((2 : Nat)) : Int) from by congr 1; omega)) ?_
      simp only [nz1, nz2, nz3]
      refine lst rfl (m_store 3 3 _ _ 2 (.int .i64 ((rget_m ((s.take (108 + 8)).drop 108)).1)) (old := #[.int .i64 (x45), .int .i64 (x46), .int .i64 (x47), .int .i64 (x48), .int .i64 (x49), .int .i64 (x50)]) (new := #[.int .i64 (x45), .int .i64 (x46), .int .i64 ((rget_m ((s.take (108 + 8)).drop 108)).1), .int .i64 (x48), .int .i64 (x49), .int .i64 (x50)]) hm135 rfl rfl rfl rfl rfl (by exact sz_3) (show 2 + 1 ≤ 6 from by decide) (one_all rfl) rfl (fun w145 (hm146 : Mm none (fun _ => True) w w145 [.blk g4 #[.string (tx x36), .int .i64 ((x37 : Nat) : Int), .int .i64 ((x38 : Nat) : Int), .int .i64 ((x39 : Nat) : Int), .int .i64 ((x40 : Nat) : Int), .int .i64 ((x41 : Nat) : Int), .int .u8 ((x42.toNat : Nat) : Int), .string (tx x43), .string (tx x44)] 23, .blk g20 #[.int .i64 148, .int .i64 100, .int .i64 108, .int .i64 116, .int .i64 124, .int .i64 136] 62, .blk g26 #[.int .i64 8, .int .i64 8, .int .i64 8, .int .i64 8, .int .i64 12, .int .i64 12] 62, .blk g32 #[.int .i64 (x45), .int .i64 (x46), .int .i64 ((rget_m ((s.take (108 + 8)).drop 108)).1), .int .i64 (x48), .int .i64 (x49), .int .i64 (x50)] 62]) => ?_))
      refine wpList_nil ?_
      refine then_n (hK144 _ _ ?_)
      refine wp_seq_k (fun K147 hK147 => ?_)
      refine wp_region_lit ?_
      refine lvw 48 (.int .i64 ((x35 : Nat) : Int)) rfl rfl (run_mv rfl rfl) ?_
      simp only [nz1, nz2, nz3]
      refine lvb 49 (x35 = 0) rfl rfl (r_eql x35 0 rfl rfl rfl) (fun hs148 => ?_) (fun hs148 => ?_)
      rotate_left
      · simp only [nz1, nz2, nz3]
        refine lvw 50 (.bool false) rfl rfl (run_mv rfl rfl) ?_
        simp only [nz1, nz2, nz3]
        refine lst_skip 51 rfl rfl ?_
        simp only [nz1, nz2, nz3]
        refine lst_skip 52 rfl rfl ?_
        simp only [nz1, nz2, nz3]
        refine lst_skip 53 rfl rfl ?_
        simp only [nz1, nz2, nz3]
        refine lst_skip 54 rfl rfl ?_
        simp only [nz1, nz2, nz3]
        refine lvw 55 (.bool false) rfl rfl (run_pickf rfl rfl rfl) ?_
        simp only [nz1, nz2, nz3]
        refine wpList_nil ?_
        refine then_n (hK147 _ _ ?_)
        refine cond_f rfl ?_
        refine wp_skip ?_
        refine blk_n ?_
        refine then_n (hK79 _ _ ?_)
        refine wp_region_lit ?_
        refine lvw 23 (.int .i64 ((x35 : Nat) : Int)) rfl rfl (run_mv rfl rfl) ?_
        simp only [nz1, nz2, nz3]
        refine lvw 24 (.int .i64 (((x35 + 1) : Nat) : Int)) rfl rfl (r_add x35 1 (show (x35 + 1) < 9223372036854775808 from by omega) rfl rfl rfl) ?_
        simp only [nz1, nz2, nz3]
        refine lvw 7 (.int .i64 (((x35 + 1) : Nat) : Int)) rfl rfl (run_as rfl rfl) ?_
        simp only [nz1, nz2, nz3]
        refine wpList_nil ?_
        refine then_n (hR73 _ _ _ ⟨k52, (x35 + 1), x36, x37, x38, x39, x40, x41, x42, x43, x44, x45, x46, (rget_m ((s.take (108 + 8)).drop 108)).1, x48, x49, x50, (fun qq => bif Nat.blt qq 24 then List.getD [u0 0, .int .i64 ((rget_m ((s.take (108 + 8)).drop 108)).1), .int .i64 ((rget_m ((s.take (108 + 8)).drop 108)).2), .int .i64 ((x35 : Nat) : Int), .bool (decide (x35 < 6)), .int .i64 ((x35 : Nat) : Int), .int .i64 (((x35 + 1) : Nat) : Int), .tuple #[.int .i64 ((rget_m ((s.take (108 + 8)).drop 108)).1), .int .i64 ((rget_m ((s.take (108 + 8)).drop 108)).2)], .string (tx s), .int .i64 ((x35 : Nat) : Int), .pointer (some ⟨g20, 2, none⟩), .int .i64 108, .int .i64 ((x35 : Nat) : Int), .pointer (some ⟨g20, 2, none⟩), .int .i64 108, .int .i64 ((x35 : Nat) : Int), .pointer (some ⟨g26, 2, none⟩), .int .i64 8, .int .i64 (((108 + 8) : Nat) : Int), .string (tx ((s.take (108 + 8)).drop 108)), .tuple #[.int .i64 ((rget_m ((s.take (108 + 8)).drop 108)).1), .int .i64 ((rget_m ((s.take (108 + 8)).drop 108)).2)], .int .i64 ((rget_m ((s.take (108 + 8)).drop 108)).1), .int .i64 ((rget_m ((s.take (108 + 8)).drop 108)).2), .int .i64 ((rget_m ((s.take (108 + 8)).drop 108)).2)] qq undef else List.getD [.bool (decide (¬ (rget_m ((s.take (108 + 8)).drop 108)).2 = 0)), u0 25, u0 26, .int .i64 ((x35 : Nat) : Int), .int .i64 ((rget_m ((s.take (108 + 8)).drop 108)).1), .pointer (some ⟨g32, 2, none⟩), .int .i64 ((x35 : Nat) : Int), .bool false, .bool false, undef, undef, undef, undef, .bool false, u0 38] (qq - 24) undef), rfl, (by first | omega | (simp; omega) | (simp at *; omega)), (hi53.trans (show rdecode_m_b0 s (rdecode_m_l0 s k52) x35 x36 x37 x38 x39 x40 x41 x42 x43 x44 x45 x46 x47 x48 x49 x50 = rdecode_m_l0 s k52 ((x35 + 1), x36, x37, x38, x39, x40, x41, x42, x43, x44, x45, x46, (rget_m ((s.take (108 + 8)).drop 108)).1, x48, x49, x50) from by unfold rdecode_m_b0; rw [if_pos hc78, if_neg hx83, if_neg hx108, if_pos hx133, if_neg hc138, if_neg hs148] <;> rfl)), (by first | omega | (simp; done) | (simp; omega) | (simp at *; omega)), rfl, hm146⟩ ?_)
        omega
      simp only [nz1, nz2, nz3]
      refine lvw 50 (.bool true) rfl rfl (run_mv rfl rfl) ?_
      simp only [nz1, nz2, nz3]
      refine lvw 51 (.int .i64 ((rget_m ((s.take (108 + 8)).drop 108)).1)) rfl rfl (run_mv rfl rfl) ?_
      simp only [nz1, nz2, nz3]
      refine lvw 52 (.string (tx s)) rfl rfl (run_mv rfl rfl) ?_
      simp only [nz1, nz2, nz3]
      refine lst rfl (m_call hm146 53 (.int .i64 ((rsum_m s))) rfl (run_rsum rfl rfl) (rsum_any s  _  ) (fun w149 (hm150 : Mm none (fun _ => True) w w149 [.blk g4 #[.string (tx x36), .int .i64 ((x37 : Nat) : Int), .int .i64 ((x38 : Nat) : Int), .int .i64 ((x39 : Nat) : Int), .int .i64 ((x40 : Nat) : Int), .int .i64 ((x41 : Nat) : Int), .int .u8 ((x42.toNat : Nat) : Int), .string (tx x43), .string (tx x44)] 23, .blk g20 #[.int .i64 148, .int .i64 100, .int .i64 108, .int .i64 116, .int .i64 124, .int .i64 136] 62, .blk g26 #[.int .i64 8, .int .i64 8, .int .i64 8, .int .i64 8, .int .i64 12, .int .i64 12] 62, .blk g32 #[.int .i64 (x45), .int .i64 (x46), .int .i64 ((rget_m ((s.take (108 + 8)).drop 108)).1), .int .i64 (x48), .int .i64 (x49), .int .i64 (x50)] 62]) => ?_))
      have hf151 : 0 ≤ (rsum_m s) ∧ (rsum_m s) ≤ 131072 := rsum_rng s
      simp only [nz1, nz2, nz3]
      refine lvw 54 (.bool (decide (¬ (rget_m ((s.take (108 + 8)).drop 108)).1 = (rsum_m s)))) rfl rfl (z_neq ((rget_m ((s.take (108 + 8)).drop 108)).1) (rsum_m s) rfl rfl rfl) ?_
      simp only [nz1, nz2, nz3]
      refine lvw 55 (.bool (decide (¬ (rget_m ((s.take (108 + 8)).drop 108)).1 = (rsum_m s)))) rfl rfl (run_pick rfl rfl rfl) ?_
      simp only [nz1, nz2, nz3]
      refine wpList_nil ?_
      refine then_n (hK147 _ _ ?_)
      refine cond_d (¬ (rget_m ((s.take (108 + 8)).drop 108)).1 = (rsum_m s)) rfl (fun hc152 => ?_) (fun hc152 => ?_)
      rotate_left
      · refine wp_skip ?_
        refine blk_n ?_
        refine then_n (hK79 _ _ ?_)
        refine wp_region_lit ?_
        refine lvw 23 (.int .i64 ((x35 : Nat) : Int)) rfl rfl (run_mv rfl rfl) ?_
        simp only [nz1, nz2, nz3]
        refine lvw 24 (.int .i64 (((x35 + 1) : Nat) : Int)) rfl rfl (r_add x35 1 (show (x35 + 1) < 9223372036854775808 from by omega) rfl rfl rfl) ?_
        simp only [nz1, nz2, nz3]
        refine lvw 7 (.int .i64 (((x35 + 1) : Nat) : Int)) rfl rfl (run_as rfl rfl) ?_
        simp only [nz1, nz2, nz3]
        refine wpList_nil ?_
        refine then_n (hR73 _ _ _ ⟨k52, (x35 + 1), x36, x37, x38, x39, x40, x41, x42, x43, x44, x45, x46, (rget_m ((s.take (108 + 8)).drop 108)).1, x48, x49, x50, (fun qq => bif Nat.blt qq 24 then List.getD [u0 0, .int .i64 ((rget_m ((s.take (108 + 8)).drop 108)).1), .int .i64 ((rget_m ((s.take (108 + 8)).drop 108)).2), .int .i64 ((x35 : Nat) : Int), .bool (decide (x35 < 6)), .int .i64 ((x35 : Nat) : Int), .int .i64 (((x35 + 1) : Nat) : Int), .tuple #[.int .i64 ((rget_m ((s.take (108 + 8)).drop 108)).1), .int .i64 ((rget_m ((s.take (108 + 8)).drop 108)).2)], .string (tx s), .int .i64 ((x35 : Nat) : Int), .pointer (some ⟨g20, 2, none⟩), .int .i64 108, .int .i64 ((x35 : Nat) : Int), .pointer (some ⟨g20, 2, none⟩), .int .i64 108, .int .i64 ((x35 : Nat) : Int), .pointer (some ⟨g26, 2, none⟩), .int .i64 8, .int .i64 (((108 + 8) : Nat) : Int), .string (tx ((s.take (108 + 8)).drop 108)), .tuple #[.int .i64 ((rget_m ((s.take (108 + 8)).drop 108)).1), .int .i64 ((rget_m ((s.take (108 + 8)).drop 108)).2)], .int .i64 ((rget_m ((s.take (108 + 8)).drop 108)).1), .int .i64 ((rget_m ((s.take (108 + 8)).drop 108)).2), .int .i64 ((rget_m ((s.take (108 + 8)).drop 108)).2)] qq undef else List.getD [.bool (decide (¬ (rget_m ((s.take (108 + 8)).drop 108)).2 = 0)), u0 25, u0 26, .int .i64 ((x35 : Nat) : Int), .int .i64 ((rget_m ((s.take (108 + 8)).drop 108)).1), .pointer (some ⟨g32, 2, none⟩), .int .i64 ((x35 : Nat) : Int), .bool true, .bool true, .int .i64 ((rget_m ((s.take (108 + 8)).drop 108)).1), .string (tx s), .int .i64 ((rsum_m s)), .bool (decide (¬ (rget_m ((s.take (108 + 8)).drop 108)).1 = (rsum_m s))), .bool (decide (¬ (rget_m ((s.take (108 + 8)).drop 108)).1 = (rsum_m s))), u0 38] (qq - 24) undef), rfl, (by first | omega | (simp; omega) | (simp at *; omega)), (hi53.trans (show rdecode_m_b0 s (rdecode_m_l0 s k52) x35 x36 x37 x38 x39 x40 x41 x42 x43 x44 x45 x46 x47 x48 x49 x50 = rdecode_m_l0 s k52 ((x35 + 1), x36, x37, x38, x39, x40, x41, x42, x43, x44, x45, x46, (rget_m ((s.take (108 + 8)).drop 108)).1, x48, x49, x50) from by unfold rdecode_m_b0; rw [if_pos hc78, if_neg hx83, if_neg hx108, if_pos hx133, if_neg hc138, if_pos hs148, if_neg hc152] <;> rfl)), (by first | omega | (simp; done) | (simp; omega) | (simp at *; omega)), rfl, hm150⟩ ?_)
        omega
      refine wp_seq_k (fun K153 hK153 => ?_)
      refine wp_region_lit ?_
      refine lvw 56 (.agg #[.string (tx ([])), .int .i64 0, .int .i64 0, .int .i64 0, .int .i64 0, .int .i64 0, .int .u8 0, .string (tx ([])), .string (tx ([]))]) rfl rfl (by unfold execOp; go_simp; try (first | rfl | (repeat' (first | rfl | apply And.intro)))) ?_
      simp only [nz1, nz2, nz3]
      refine lst rfl (m_store 0 23 _ _ 0 (.agg #[.string (tx ([])), .int .i64 0, .int .i64 0, .int .i64 0, .int .i64 0, .int .i64 0, .int .u8 0, .string (tx ([])), .string (tx ([]))]) (old := #[.string (tx x36), .int .i64 ((x37 : Nat) : Int), .int .i64 ((x38 : Nat) : Int), .int .i64 ((x39 : Nat) : Int), .int .i64 ((x40 : Nat) : Int), .int .i64 ((x41 : Nat) : Int), .int .u8 ((x42.toNat : Nat) : Int), .string (tx x43), .string (tx x44)]) (new := #[.string (tx ([])), .int .i64 0, .int .i64 0, .int .i64 0, .int .i64 0, .int .i64 0, .int .u8 0, .string (tx ([])), .string (tx ([]))]) hm150 rfl rfl rfl rfl rfl (by exact sz_23) (show 0 + 9 ≤ 9 from by decide) (by simp [Value.cells, Value.oneCell']) rfl (fun w154 (hm155 : Mm none (fun _ => True) w w154 [.blk g4 #[.string (tx ([])), .int .i64 0, .int .i64 0, .int .i64 0, .int .i64 0, .int .i64 0, .int .u8 0, .string (tx ([])), .string (tx ([]))] 23, .blk g20 #[.int .i64 148, .int .i64 100, .int .i64 108, .int .i64 116, .int .i64 124, .int .i64 136] 62, .blk g26 #[.int .i64 8, .int .i64 8, .int .i64 8, .int .i64 8, .int .i64 12, .int .i64 12] 62, .blk g32 #[.int .i64 (x45), .int .i64 (x46), .int .i64 ((rget_m ((s.take (108 + 8)).drop 108)).1), .int .i64 (x48), .int .i64 (x49), .int .i64 (x50)] 62]) => ?_))
      refine lvw 3 (.int .i64 2) rfl rfl (run_as rfl rfl) ?_
      simp only [nz1, nz2, nz3]
      refine wpList_nil ?_
      refine then_n (hK153 _ _ ?_)
      refine wp_ret ?_
      refine blk_r ?_
      refine then_r ?_
      refine then_r ?_
      refine blk_r ?_
      refine then_r ?_
      refine then_r ?_
      have he156 : rdecode_m_l0 s ((6 - 0) + 1) (0, ([]), 0, 0, 0, 0, 0, (UInt8.ofNat 0), ([]), ([]), 0, 0, 0, 0, 0, 0) = .inr ((Hdr.mk ([]) 0 0 0 0 0 (UInt8.ofNat 0) ([]) ([])), 2) := (hi53.trans (show rdecode_m_b0 s (rdecode_m_l0 s k52) x35 x36 x37 x38 x39 x40 x41 x42 x43 x44 x45 x46 x47 x48 x49 x50 = .inr ((Hdr.mk ([]) 0 0 0 0 0 (UInt8.ofNat 0) ([]) ([])), 2) from by unfold rdecode_m_b0; rw [if_pos hc78, if_neg hx83, if_neg hx108, if_pos hx133, if_neg hc138, if_pos hs148, if_pos hc152] <;> rfl))
      have he157 : rdecode_m s = ((Hdr.mk ([]) 0 0 0 0 0 (UInt8.ofNat 0) ([]) ([])), 2) := (show rdecode_m s = ((Hdr.mk ([]) 0 0 0 0 0 (UInt8.ofNat 0) ([]) ([])), 2) from by unfold rdecode_m; rw [if_neg hs7, if_neg hc12, he156] <;> rfl)
      exact ⟨rfl, .tuple #[.agg #[.string (tx ([])), .int .i64 0, .int .i64 0, .int .i64 0, .int .i64 0, .int .i64 0, .int .u8 0, .string (tx ([])), .string (tx ([]))], .int .i64 2], Mem.res_ct rfl rfl (hm155.at 0 rfl) Tryd.underlying23 rfl (by exact sz_23) rfl, ⟨by (rw [he157]; try rfl), hm155.below⟩⟩
    by_cases hx158 : x35 = 3
    · refine tk 2 28 (.pointer (some ⟨g20, 3, none⟩)) rfl rfl (fun _ hw => Sx.r_ix g20 3 (by decide) Tryd.underlying62 sz_3 rfl rfl (show (Value.int .i64 ((x35 : Nat) : Int)) = .int .i64 (((3 : Nat)) : Int) from by congr 1; omega)) (⟨hm81.at 1 rfl, hm81.at 2 rfl⟩) ?_
      simp only [nz1, nz2, nz3]
      refine tk 3 29 (.int .i64 116) rfl rfl (fun _ hw => r_load hw.1 rfl Tryd.underlying3 rfl rfl rfl) (⟨hm81.at 1 rfl, hm81.at 2 rfl⟩) ?_
      simp only [nz1, nz2, nz3]
      refine tk 4 30 (.int .i64 ((x35 : Nat) : Int)) rfl rfl (fun _ hw => run_mv rfl rfl) (⟨hm81.at 1 rfl, hm81.at 2 rfl⟩) ?_
      simp only [nz1, nz2, nz3]
      refine tk 5 31 (.pointer (some ⟨g20, 3, none⟩)) rfl rfl (fun _ hw => Sx.r_ix g20 3 (by decide) Tryd.underlying62 sz_3 rfl rfl (show (Value.int .i64 ((x35 : Nat) : Int)) = .int .i64 (((3 : Nat)) : Int) from by congr 1; omega)) (⟨hm81.at 1 rfl, hm81.at 2 rfl⟩) ?_
      simp only [nz1, nz2, nz3]
      refine tk 6 32 (.int .i64 116) rfl rfl (fun _ hw => r_load hw.1 rfl Tryd.underlying3 rfl rfl rfl) (⟨hm81.at 1 rfl, hm81.at 2 rfl⟩) ?_
      simp only [nz1, nz2, nz3]
      refine tk 7 33 (.int .i64 ((x35 : Nat) : Int)) rfl rfl (fun _ hw => run_mv rfl rfl) (⟨hm81.at 1 rfl, hm81.at 2 rfl⟩) ?_
      simp only [nz1, nz2, nz3]
      refine tk 8 34 (.pointer (some ⟨g26, 3, none⟩)) rfl rfl (fun _ hw => Sx.r_ix g26 3 (by decide) Tryd.underlying62 sz_3 rfl rfl (show (Value.int .i64 ((x35 : Nat) : Int)) = .int .i64 (((3 : Nat)) : Int) from by congr 1; omega)) (⟨hm81.at 1 rfl, hm81.at 2 rfl⟩) ?_
      simp only [nz1, nz2, nz3]
      refine tk 9 35 (.int .i64 8) rfl rfl (fun _ hw => r_load hw.2 rfl Tryd.underlying3 rfl rfl rfl) (⟨hm81.at 1 rfl, hm81.at 2 rfl⟩) ?_
      simp only [nz1, nz2, nz3]
      refine tk 10 36 (.int .i64 (((116 + 8) : Nat) : Int)) rfl rfl (fun _ hw => r_add 116 8 (show (116 + 8) < 9223372036854775808 from by omega) rfl rfl rfl) (⟨hm81.at 1 rfl, hm81.at 2 rfl⟩) ?_
      simp only [nz1, nz2, nz3]
      refine tk 11 37 (.string (tx ((s.take (116 + 8)).drop 116))) rfl rfl (fun _ hw => t_cut s 116 (116 + 8) (by omega) (by omega) Tryd.underlying9 rfl rfl rfl rfl) (⟨hm81.at 1 rfl, hm81.at 2 rfl⟩) ?_
      simp only [nz1, nz2, nz3]
      refine one_ready 12 (by kernel_rfl) ?_
      refine opd rfl (wanted_none rfl) (m_call hm81 38 (.tuple #[.int .i64 ((rget_m ((s.take (116 + 8)).drop 116)).1), .int .i64 ((rget_m ((s.take (116 + 8)).drop 116)).2)]) rfl (run_rget rfl rfl) (rget_any ((s.take (116 + 8)).drop 116)  _  (by first | omega | assumption | (rw [List.length_drop]; omega) | (rw [List.length_take]; omega) | (rw [List.length_drop, List.length_take]; omega) | (simp; done) | (simp; omega) | (simp only [List.length_append, List.length_cons, List.length_nil]; omega) | (simp only [List.length_append, List.length_cons, List.length_nil] at *; omega) | decide)) (fun w159 (hm160 : Mm none (fun _ => True) w w159 [.blk g4 #[.string (tx x36), .int .i64 ((x37 : Nat) : Int), .int .i64 ((x38 : Nat) : Int), .int .i64 ((x39 : Nat) : Int), .int .i64 ((x40 : Nat) : Int), .int .i64 ((x41 : Nat) : Int), .int .u8 ((x42.toNat : Nat) : Int), .string (tx x43), .string (tx x44)] 23, .blk g20 #[.int .i64 148, .int .i64 100, .int .i64 108, .int .i64 116, .int .i64 124, .int .i64 136] 62, .blk g26 #[.int .i64 8, .int .i64 8, .int .i64 8, .int .i64 8, .int .i64 12, .int .i64 12] 62, .blk g32 #[.int .i64 (x45), .int .i64 (x46), .int .i64 (x47), .int .i64 (x48), .int .i64 (x49), .int .i64 (x50)] 62]) => ?_))
      refine ⟨⟨hm160.at 1 rfl, hm160.at 2 rfl⟩, ?_⟩
      simp only [nz1, nz2, nz3]
      refine tk 13 25 (.tuple #[.int .i64 ((rget_m ((s.take (116 + 8)).drop 116)).1), .int .i64 ((rget_m ((s.take (116 + 8)).drop 116)).2)]) rfl rfl (fun _ hw => run_mv rfl rfl) (⟨hm160.at 1 rfl, hm160.at 2 rfl⟩) ?_
      simp only [nz1, nz2, nz3]
      refine tk 14 39 (.int .i64 ((rget_m ((s.take (116 + 8)).drop 116)).1)) rfl rfl (fun _ hw => run_ex rfl rfl rfl) (⟨hm160.at 1 rfl, hm160.at 2 rfl⟩) ?_
      simp only [nz1, nz2, nz3]
      refine tk 15 40 (.int .i64 ((rget_m ((s.take (116 + 8)).drop 116)).2)) rfl rfl (fun _ hw => run_ex rfl rfl rfl) (⟨hm160.at 1 rfl, hm160.at 2 rfl⟩) ?_
      simp only [nz1, nz2, nz3]
      refine one_ready 16 (by kernel_rfl) ?_
      refine opd rfl (wanted_none rfl) (w_value 8 (.int .i64 ((rget_m ((s.take (116 + 8)).drop 116)).1)) rfl (run_as rfl rfl) ⟨⟨hm160.at 1 rfl, hm160.at 2 rfl⟩, ?_⟩)
      simp only [nz1, nz2, nz3]
      refine one_ready 17 (by kernel_rfl) ?_
      refine opd rfl (wanted_none rfl) (w_value 9 (.int .i64 ((rget_m ((s.take (116 + 8)).drop 116)).2)) rfl (run_as rfl rfl) ⟨⟨hm160.at 1 rfl, hm160.at 2 rfl⟩, ?_⟩)
      simp only [nz1, nz2, nz3]
      refine wpAnyH_done (by kernel_rfl) ?_ _
      refine then_n (hK80 _ _ ?_)
      refine wp_seq_k (fun K161 hK161 => ?_)
      refine wp_seq_k (fun K162 hK162 => ?_)
      refine wp_region_lit ?_
      refine lvw 41 (.int .i64 ((rget_m ((s.take (116 + 8)).drop 116)).2)) rfl rfl (run_mv rfl rfl) ?_
      simp only [nz1, nz2, nz3]
      refine lvw 42 (.bool (decide (¬ (rget_m ((s.take (116 + 8)).drop 116)).2 = 0))) rfl rfl (z_neq ((rget_m ((s.take (116 + 8)).drop 116)).2) 0 rfl rfl rfl) ?_
      simp only [nz1, nz2, nz3]
      refine wpList_nil ?_
      refine then_n (hK162 _ _ ?_)
      refine cond_d (¬ (rget_m ((s.take (116 + 8)).drop 116)).2 = 0) rfl (fun hc163 => ?_) (fun hc163 => ?_)
      · refine wp_seq_k (fun K164 hK164 => ?_)
        refine wp_region_lit ?_
        refine lvw 43 (.agg #[.string (tx ([])), .int .i64 0, .int .i64 0, .int .i64 0, .int .i64 0, .int .i64 0, .int .u8 0, .string (tx ([])), .string (tx ([]))]) rfl rfl (by unfold execOp; go_simp; try (first | rfl | (repeat' (first | rfl | apply And.intro)))) ?_
        simp only [nz1, nz2, nz3]
        refine lvw 44 (.int .i64 ((rget_m ((s.take (116 + 8)).drop 116)).2)) rfl rfl (run_mv rfl rfl) ?_
        simp only [nz1, nz2, nz3]
        refine lst rfl (m_store 0 23 _ _ 0 (.agg #[.string (tx ([])), .int .i64 0, .int .i64 0, .int .i64 0, .int .i64 0, .int .i64 0, .int .u8 0, .string (tx ([])), .string (tx ([]))]) (old := #[.string (tx x36), .int .i64 ((x37 : Nat) : Int), .int .i64 ((x38 : Nat) : Int), .int .i64 ((x39 : Nat) : Int), .int .i64 ((x40 : Nat) : Int), .int .i64 ((x41 : Nat) : Int), .int .u8 ((x42.toNat : Nat) : Int), .string (tx x43), .string (tx x44)]) (new := #[.string (tx ([])), .int .i64 0, .int .i64 0, .int .i64 0, .int .i64 0, .int .i64 0, .int .u8 0, .string (tx ([])), .string (tx ([]))]) hm160 rfl rfl rfl rfl rfl (by exact sz_23) (show 0 + 9 ≤ 9 from by decide) (by simp [Value.cells, Value.oneCell']) rfl (fun w165 (hm166 : Mm none (fun _ => True) w w165 [.blk g4 #[.string (tx ([])), .int .i64 0, .int .i64 0, .int .i64 0, .int .i64 0, .int .i64 0, .int .u8 0, .string (tx ([])), .string (tx ([]))] 23, .blk g20 #[.int .i64 148, .int .i64 100, .int .i64 108, .int .i64 116, .int .i64 124, .int .i64 136] 62, .blk g26 #[.int .i64 8, .int .i64 8, .int .i64 8, .int .i64 8, .int .i64 12, .int .i64 12] 62, .blk g32 #[.int .i64 (x45), .int .i64 (x46), .int .i64 (x47), .int .i64 (x48), .int .i64 (x49), .int .i64 (x50)] 62]) => ?_))
        refine lvw 3 (.int .i64 ((rget_m ((s.take (116 + 8)).drop 116)).2)) rfl rfl (run_as rfl rfl) ?_
        simp only [nz1, nz2, nz3]
        refine wpList_nil ?_
        refine then_n (hK164 _ _ ?_)
        refine wp_ret ?_
        refine then_r ?_
        refine blk_r ?_
        refine then_r ?_
        refine then_r ?_
        refine blk_r ?_
        refine then_r ?_
        refine then_r ?_
        have he167 : rdecode_m_l0 s ((6 - 0) + 1) (0, ([]), 0, 0, 0, 0, 0, (UInt8.ofNat 0), ([]), ([]), 0, 0, 0, 0, 0, 0) = .inr ((Hdr.mk ([]) 0 0 0 0 0 (UInt8.ofNat 0) ([]) ([])), (rget_m ((s.take (116 + 8)).drop 116)).2) := (hi53.trans (show rdecode_m_b0 s (rdecode_m_l0 s k52) x35 x36 x37 x38 x39 x40 x41 x42 x43 x44 x45 x46 x47 x48 x49 x50 = .inr ((Hdr.mk ([]) 0 0 0 0 0 (UInt8.ofNat 0) ([]) ([])), (rget_m ((s.take (116 + 8)).drop 116)).2) from by unfold rdecode_m_b0; rw [if_pos hc78, if_neg hx83, if_neg hx108, if_neg hx133, if_pos hx158, if_pos hc163] <;> rfl))
        have he168 : rdecode_m s = ((Hdr.mk ([]) 0 0 0 0 0 (UInt8.ofNat 0) ([]) ([])), (rget_m ((s.take (116 + 8)).drop 116)).2) := (show rdecode_m s = ((Hdr.mk ([]) 0 0 0 0 0 (UInt8.ofNat 0) ([]) ([])), (rget_m ((s.take (116 + 8)).drop 116)).2) from by unfold rdecode_m; rw [if_neg hs7, if_neg hc12, he167] <;> rfl)
        exact ⟨rfl, .tuple #[.agg #[.string (tx ([])), .int .i64 0, .int .i64 0, .int .i64 0, .int .i64 0, .int .i64 0, .int .u8 0, .string (tx ([])), .string (tx ([]))], .int .i64 ((rget_m ((s.take (116 + 8)).drop 116)).2)], Mem.res_ct rfl rfl (hm166.at 0 rfl) Tryd.underlying23 rfl (by exact sz_23) rfl, ⟨by (rw [he168]; try rfl), hm166.below⟩⟩
      refine wp_skip ?_
      refine then_n (hK161 _ _ ?_)
      refine wp_seq_k (fun K169 hK169 => ?_)
      refine wp_region_lit ?_
      refine lvw 45 (.int .i64 ((x35 : Nat) : Int)) rfl rfl (run_mv rfl rfl) ?_
      simp only [nz1, nz2, nz3]
      refine lvw 46 (.int .i64 ((rget_m ((s.take (116 + 8)).drop 116)).1)) rfl rfl (run_mv rfl rfl) ?_
      simp only [nz1, nz2, nz3]
      refine lvw 47 (.pointer (some ⟨g32, 3, none⟩)) rfl rfl (Sx.r_ix g32 3 (by decide) Tryd.underlying62 sz_3 rfl rfl (show (Value.int .i64 ((x35 : Nat) : Int)) = .int .i64 (((3 : Nat)) : Int) from by congr 1; omega)) ?_
      simp only [nz1, nz2, nz3]
      refine lst rfl (m_store 3 3 _ _ 3 (.int .i64 ((rget_m ((s.take (116 + 8)).drop 116)).1)) (old := #[.int .i64 (x45), .int .i64 (x46), .int .i64 (x47), .int .i64 (x48), .int .i64 (x49), .int .i64 (x50)]) (new := #[.int .i64 (x45), .int .i64 (x46), .int .i64 (x47), .int .i64 ((rget_m ((s.take (116 + 8)).drop 116)).1), .int .i64 (x49), .int .i64 (x50)]) hm160 rfl rfl rfl rfl rfl (by exact sz_3) (show 3 + 1 ≤ 6 from by decide) (one_all rfl) rfl (fun w170 (hm171 : Mm none (fun _ => True) w w170 [.blk g4 #[.string (tx x36), .int .i64 ((x37 : Nat) : Int), .int .i64 ((x38 : Nat) : Int), .int .i64 ((x39 : Nat) : Int), .int .i64 ((x40 : Nat) : Int), .int .i64 ((x41 : Nat) : Int), .int .u8 ((x42.toNat : Nat) : Int), .string (tx x43), .string (tx x44)] 23, .blk g20 #[.int .i64 148, .int .i64 100, .int .i64 108, .int .i64 116, .int .i64 124, .int .i64 136] 62, .blk g26 #[.int .i64 8, .int .i64 8, .int .i64 8, .int .i64 8, .int .i64 12, .int .i64 12] 62, .blk g32 #[.int .i64 (x45), .int .i64 (x46), .int .i64 (x47), .int .i64 ((rget_m ((s.take (116 + 8)).drop 116)).1), .int .i64 (x49), .int .i64 (x50)] 62]) => ?_))
      refine wpList_nil ?_
      refine then_n (hK169 _ _ ?_)
      refine wp_seq_k (fun K172 hK172 => ?_)
      refine wp_region_lit ?_
      refine lvw 48 (.int .i64 ((x35 : Nat) : Int)) rfl rfl (run_mv rfl rfl) ?_
      simp only [nz1, nz2, nz3]
      refine lvb 49 (x35 = 0) rfl rfl (r_eql x35 0 rfl rfl rfl) (fun hs173 => ?_) (fun hs173 => ?_)
      rotate_left
      · simp only [nz1, nz2, nz3]
        refine lvw 50 (.bool false) rfl rfl (run_mv rfl rfl) ?_
        simp only [nz1, nz2, nz3]
        refine lst_skip 51 rfl rfl ?_
        simp only [nz1, nz2, nz3]
        refine lst_skip 52 rfl rfl ?_
        simp only [nz1, nz2, nz3]
        refine lst_skip 53 rfl rfl ?_
        simp only [nz1, nz2, nz3]
        refine lst_skip 54 rfl rfl ?_
        simp only [nz1, nz2, nz3]
        refine lvw 55 (.bool false) rfl rfl (run_pickf rfl rfl rfl) ?_
        simp only [nz1, nz2, nz3]
        refine wpList_nil ?_
        refine then_n (hK172 _ _ ?_)
        refine cond_f rfl ?_
        refine wp_skip ?_
        refine blk_n ?_
        refine then_n (hK79 _ _ ?_)
        refine wp_region_lit ?_
        refine lvw 23 (.int .i64 ((x35 : Nat) : Int)) rfl rfl (run_mv rfl rfl) ?_
        simp only [nz1, nz2, nz3]
        refine lvw 24 (.int .i64 (((x35 + 1) : Nat) : Int)) rfl rfl (r_add x35 1 (show (x35 + 1) < 9223372036854775808 from by omega) rfl rfl rfl) ?_
        simp only [nz1, nz2, nz3]
        refine lvw 7 (.int .i64 (((x35 + 1) : Nat) : Int)) rfl rfl (run_as rfl rfl) ?_
        simp only [nz1, nz2, nz3]
        refine wpList_nil ?_
        refine then_n (hR73 _ _ _ ⟨k52, (x35 + 1), x36, x37, x38, x39, x40, x41, x42, x43, x44, x45, x46, x47, (rget_m ((s.take (116 + 8)).drop 116)).1, x49, x50, (fun qq => bif Nat.blt qq 24 then List.getD [u0 0, .int .i64 ((rget_m ((s.take (116 + 8)).drop 116)).1), .int .i64 ((rget_m ((s.take (116 + 8)).drop 116)).2), .int .i64 ((x35 : Nat) : Int), .bool (decide (x35 < 6)), .int .i64 ((x35 : Nat) : Int), .int .i64 (((x35 + 1) : Nat) : Int), .tuple #[.int .i64 ((rget_m ((s.take (116 + 8)).drop 116)).1), .int .i64 ((rget_m ((s.take (116 + 8)).drop 116)).2)], .string (tx s), .int .i64 ((x35 : Nat) : Int), .pointer (some ⟨g20, 3, none⟩), .int .i64 116, .int .i64 ((x35 : Nat) : Int), .pointer (some ⟨g20, 3, none⟩), .int .i64 116, .int .i64 ((x35 : Nat) : Int), .pointer (some ⟨g26, 3, none⟩), .int .i64 8, .int .i64 (((116 + 8) : Nat) : Int), .string (tx ((s.take (116 + 8)).drop 116)), .tuple #[.int .i64 ((rget_m ((s.take (116 + 8)).drop 116)).1), .int .i64 ((rget_m ((s.take (116 + 8)).drop 116)).2)], .int .i64 ((rget_m ((s.take (116 + 8)).drop 116)).1), .int .i64 ((rget_m ((s.take (116 + 8)).drop 116)).2), .int .i64 ((rget_m ((s.take (116 + 8)).drop 116)).2)] qq undef else List.getD [.bool (decide (¬ (rget_m ((s.take (116 + 8)).drop 116)).2 = 0)), u0 25, u0 26, .int .i64 ((x35 : Nat) : Int), .int .i64 ((rget_m ((s.take (116 + 8)).drop 116)).1), .pointer (some ⟨g32, 3, none⟩), .int .i64 ((x35 : Nat) : Int), .bool false, .bool false, undef, undef, undef, undef, .bool false, u0 38] (qq - 24) undef), rfl, (by first | omega | (simp; omega) | (simp at *; omega)), (hi53.trans (show rdecode_m_b0 s (rdecode_m_l0 s k52) x35 x36 x37 x38 x39 x40 x41 x42 x43 x44 x45 x46 x47 x48 x49 x50 = rdecode_m_l0 s k52 ((x35 + 1), x36, x37, x38, x39, x40, x41, x42, x43, x44, x45, x46, x47, (rget_m ((s.take (116 + 8)).drop 116)).1, x49, x50) from by unfold rdecode_m_b0; rw [if_pos hc78, if_neg hx83, if_neg hx108, if_neg hx133, if_pos hx158, if_neg hc163, if_neg hs173] <;> rfl)), (by first | omega | (simp; done) | (simp; omega) | (simp at *; omega)), rfl, hm171⟩ ?_)
        omega
      simp only [nz1, nz2, nz3]
      refine lvw 50 (.bool true) rfl rfl (run_mv rfl rfl) ?_
      simp only [nz1, nz2, nz3]
      refine lvw 51 (.int .i64 ((rget_m ((s.take (116 + 8)).drop 116)).1)) rfl rfl (run_mv rfl rfl) ?_
      simp only [nz1, nz2, nz3]
      refine lvw 52 (.string (tx s)) rfl rfl (run_mv rfl rfl) ?_
      simp only [nz1, nz2, nz3]
      refine lst rfl (m_call hm171 53 (.int .i64 ((rsum_m s))) rfl (run_rsum rfl rfl) (rsum_any s  _  ) (fun w174 (hm175 : Mm none (fun _ => True) w w174 [.blk g4 #[.string (tx x36), .int .i64 ((x37 : Nat) : Int), .int .i64 ((x38 : Nat) : Int), .int .i64 ((x39 : Nat) : Int), .int .i64 ((x40 : Nat) : Int), .int .i64 ((x41 : Nat) : Int), .int .u8 ((x42.toNat : Nat) : Int), .string (tx x43), .string (tx x44)] 23, .blk g20 #[.int .i64 148, .int .i64 100, .int .i64 108, .int .i64 116, .int .i64 124, .int .i64 136] 62, .blk g26 #[.int .i64 8, .int .i64 8, .int .i64 8, .int .i64 8, .int .i64 12, .int .i64 12] 62, .blk g32 #[.int .i64 (x45), .int .i64 (x46), .int .i64 (x47), .int .i64 ((rget_m ((s.take (116 + 8)).drop 116)).1), .int .i64 (x49), .int .i64 (x50)] 62]) => ?_))
      have hf176 : 0 ≤ (rsum_m s) ∧ (rsum_m s) ≤ 131072 := rsum_rng s
      simp only [nz1, nz2, nz3]
      refine lvw 54 (.bool (decide (¬ (rget_m ((s.take (116 + 8)).drop 116)).1 = (rsum_m s)))) rfl rfl (z_neq ((rget_m ((s.take (116 + 8)).drop 116)).1) (rsum_m s) rfl rfl rfl) ?_
      simp only [nz1, nz2, nz3]
      refine lvw 55 (.bool (decide (¬ (rget_m ((s.take (116 + 8)).drop 116)).1 = (rsum_m s)))) rfl rfl (run_pick rfl rfl rfl) ?_
      simp only [nz1, nz2, nz3]
      refine wpList_nil ?_
      refine then_n (hK172 _ _ ?_)
      refine cond_d (¬ (rget_m ((s.take (116 + 8)).drop 116)).1 = (rsum_m s)) rfl (fun hc177 => ?_) (fun hc177 => ?_)
      rotate_left
      · refine wp_skip ?_
        refine blk_n ?_
        refine then_n (hK79 _ _ ?_)
        refine wp_region_lit ?_
        refine lvw 23 (.int .i64 ((x35 : Nat) : Int)) rfl rfl (run_mv rfl rfl) ?_
        simp only [nz1, nz2, nz3]
        refine lvw 24 (.int .i64 (((x35 + 1) : Nat) : Int)) rfl rfl (r_add x35 1 (show (x35 + 1) < 9223372036854775808 from by omega) rfl rfl rfl) ?_
        simp only [nz1, nz2, nz3]
        refine lvw 7 (.int .i64 (((x35 + 1) : Nat) : Int)) rfl rfl (run_as rfl rfl) ?_
        simp only [nz1, nz2, nz3]
        refine wpList_nil ?_
        refine then_n (hR73 _ _ _ ⟨k52, (x35 + 1), x36, x37, x38, x39, x40, x41, x42, x43, x44, x45, x46, x47, (rget_m ((s.take (116 + 8)).drop 116)).1, x49, x50, (fun qq => bif Nat.blt qq 24 then List.getD [u0 0, .int .i64 ((rget_m ((s.take (116 + 8)).drop 116)).1), .int .i64 ((rget_m ((s.take (116 + 8)).drop 116)).2), .int .i64 ((x35 : Nat) : Int), .bool (decide (x35 < 6)), .int .i64 ((x35 : Nat) : Int), .int .i64 (((x35 + 1) : Nat) : Int), .tuple #[.int .i64 ((rget_m ((s.take (116 + 8)).drop 116)).1), .int .i64 ((rget_m ((s.take (116 + 8)).drop 116)).2)], .string (tx s), .int .i64 ((x35 : Nat) : Int), .pointer (some ⟨g20, 3, none⟩), .int .i64 116, .int .i64 ((x35 : Nat) : Int), .pointer (some ⟨g20, 3, none⟩), .int .i64 116, .int .i64 ((x35 : Nat) : Int), .pointer (some ⟨g26, 3, none⟩), .int .i64 8, .int .i64 (((116 + 8) : Nat) : Int), .string (tx ((s.take (116 + 8)).drop 116)), .tuple #[.int .i64 ((rget_m ((s.take (116 + 8)).drop 116)).1), .int .i64 ((rget_m ((s.take (116 + 8)).drop 116)).2)], .int .i64 ((rget_m ((s.take (116 + 8)).drop 116)).1), .int .i64 ((rget_m ((s.take (116 + 8)).drop 116)).2), .int .i64 ((rget_m ((s.take (116 + 8)).drop 116)).2)] qq undef else List.getD [.bool (decide (¬ (rget_m ((s.take (116 + 8)).drop 116)).2 = 0)), u0 25, u0 26, .int .i64 ((x35 : Nat) : Int), .int .i64 ((rget_m ((s.take (116 + 8)).drop 116)).1), .pointer (some ⟨g32, 3, none⟩), .int .i64 ((x35 : Nat) : Int), .bool true, .bool true, .int .i64 ((rget_m ((s.take (116 + 8)).drop 116)).1), .string (tx s), .int .i64 ((rsum_m s)), .bool (decide (¬ (rget_m ((s.take (116 + 8)).drop 116)).1 = (rsum_m s))), .bool (decide (¬ (rget_m ((s.take (116 + 8)).drop 116)).1 = (rsum_m s))), u0 38] (qq - 24) undef), rfl, (by first | omega | (simp; omega) | (simp at *; omega)), (hi53.trans (show rdecode_m_b0 s (rdecode_m_l0 s k52) x35 x36 x37 x38 x39 x40 x41 x42 x43 x44 x45 x46 x47 x48 x49 x50 = rdecode_m_l0 s k52 ((x35 + 1), x36, x37, x38, x39, x40, x41, x42, x43, x44, x45, x46, x47, (rget_m ((s.take (116 + 8)).drop 116)).1, x49, x50) from by unfold rdecode_m_b0; rw [if_pos hc78, if_neg hx83, if_neg hx108, if_neg hx133, if_pos hx158, if_neg hc163, if_pos hs173, if_neg hc177] <;> rfl)), (by first | omega | (simp; done) | (simp; omega) | (simp at *; omega)), rfl, hm175⟩ ?_)
        omega
      refine wp_seq_k (fun K178 hK178 => ?_)
      refine wp_region_lit ?_
      refine lvw 56 (.agg #[.string (tx ([])), .int .i64 0, .int .i64 0, .int .i64 0, .int .i64 0, .int .i64 0, .int .u8 0, .string (tx ([])), .string (tx ([]))]) rfl rfl (by unfold execOp; go_simp; try (first | rfl | (repeat' (first | rfl | apply And.intro)))) ?_
      simp only [nz1, nz2, nz3]
      refine lst rfl (m_store 0 23 _ _ 0 (.agg #[.string (tx ([])), .int .i64 0, .int .i64 0, .int .i64 0, .int .i64 0, .int .i64 0, .int .u8 0, .string (tx ([])), .string (tx ([]))]) (old := #[.string (tx x36), .int .i64 ((x37 : Nat) : Int), .int .i64 ((x38 : Nat) : Int), .int .i64 ((x39 : Nat) : Int), .int .i64 ((x40 : Nat) : Int), .int .i64 ((x41 : Nat) : Int), .int .u8 ((x42.toNat : Nat) : Int), .string (tx x43), .string (tx x44)]) (new := #[.string (tx ([])), .int .i64 0, .int .i64 0, .int .i64 0, .int .i64 0, .int .i64 0, .int .u8 0, .string (tx ([])), .string (tx ([]))]) hm175 rfl rfl rfl rfl rfl (by exact sz_23) (show 0 + 9 ≤ 9 from by decide) (by simp [Value.cells, Value.oneCell']) rfl (fun w179 (hm180 : Mm none (fun _ => True) w w179 [.blk g4 #[.string (tx ([])), .int .i64 0, .int .i64 0, .int .i64 0, .int .i64 0, .int .i64 0, .int .u8 0, .string (tx ([])), .string (tx ([]))] 23, .blk g20 #[.int .i64 148, .int .i64 100, .int .i64 108, .int .i64 116, .int .i64 124, .int .i64 136] 62, .blk g26 #[.int .i64 8, .int .i64 8, .int .i64 8, .int .i64 8, .int .i64 12, .int .i64 12] 62, .blk g32 #[.int .i64 (x45), .int .i64 (x46), .int .i64 (x47), .int .i64 ((rget_m ((s.take (116 + 8)).drop 116)).1), .int .i64 (x49), .int .i64 (x50)] 62]) => ?_))
      refine lvw 3 (.int .i64 2) rfl rfl (run_as rfl rfl) ?_
      simp only [nz1, nz2, nz3]
      refine wpList_nil ?_
      refine then_n (hK178 _ _ ?_)
      refine wp_ret ?_
      refine blk_r ?_
      refine then_r ?_
      refine then_r ?_
      refine blk_r ?_
      refine then_r ?_
      refine then_r ?_
      have he181 : rdecode_m_l0 s ((6 - 0) + 1) (0, ([]), 0, 0, 0, 0, 0, (UInt8.ofNat 0), ([]), ([]), 0, 0, 0, 0, 0, 0) = .inr ((Hdr.mk ([]) 0 0 0 0 0 (UInt8.ofNat 0) ([]) ([])), 2) := (hi53.trans (show rdecode_m_b0 s (rdecode_m_l0 s k52) x35 x36 x37 x38 x39 x40 x41 x42 x43 x44 x45 x46 x47 x48 x49 x50 = .inr ((Hdr.mk ([]) 0 0 0 0 0 (UInt8.ofNat 0) ([]) ([])), 2) from by unfold rdecode_m_b0; rw [if_pos hc78, if_neg hx83, if_neg hx108, if_neg hx133, if_pos hx158, if_neg hc163, if_pos hs173, if_pos hc177] <;> rfl))
      have he182 : rdecode_m s = ((Hdr.mk ([]) 0 0 0 0 0 (UInt8.ofNat 0) ([]) ([])), 2) := (show rdecode_m s = ((Hdr.mk ([]) 0 0 0 0 0 (UInt8.ofNat 0) ([]) ([])), 2) from by unfold rdecode_m; rw [if_neg hs7, if_neg hc12, he181] <;> rfl)
      exact ⟨rfl, .tuple #[.agg #[.string (tx ([])), .int .i64 0, .int .i64 0, .int .i64 0, .int .i64 0, .int .i64 0, .int .u8 0, .string (tx ([])), .string (tx ([]))], .int .i64 2], Mem.res_ct rfl rfl (hm180.at 0 rfl) Tryd.underlying23 rfl (by exact sz_23) rfl, ⟨by (rw [he182]; try rfl), hm180.below⟩⟩
    by_cases hx183 : x35 = 4
    · refine tk 2 28 (.pointer (some ⟨g20, 4, none⟩)) rfl rfl (fun _ hw => Sx.r_ix g20 4 (by decide) Tryd.underlying62 sz_3 rfl rfl (show (Value.int .i64 ((x35 : Nat) : Int)) = .int .i64 (((4 : Nat)) : Int) from by congr 1; omega)) (⟨hm81.at 1 rfl, hm81.at 2 rfl⟩) ?_
      simp only [nz1, nz2, nz3]
      refine tk 3 29 (.int .i64 124) rfl rfl (fun _ hw => r_load hw.1 rfl Tryd.underlying3 rfl rfl rfl) (⟨hm81.at 1 rfl, hm81.at 2 rfl⟩) ?_
      simp only [nz1, nz2, nz3]
      refine tk 4 30 (.int .i64 ((x35 : Nat) : Int)) rfl rfl (fun _ hw => run_mv rfl rfl) (⟨hm81.at 1 rfl, hm81.at 2 rfl⟩) ?_
      simp only [nz1, nz2, nz3]
      refine tk 5 31 (.pointer (some ⟨g20, 4, none⟩)) rfl rfl (fun _ hw => Sx.r_ix g20 4 (by decide) Tryd.underlying62 sz_3 rfl rfl (show (Value.int .i64 ((x35 : Nat) : Int)) = .int .i64 (((4 : Nat)) : Int) from by congr 1; omega)) (⟨hm81.at 1 rfl, hm81.at 2 rfl⟩) ?_
      simp only [nz1, nz2, nz3]
      refine tk 6 32 (.int .i64 124) rfl rfl (fun _ hw => r_load hw.1 rfl Tryd.underlying3 rfl rfl rfl) (⟨hm81.at 1 rfl, hm81.at 2 rfl⟩) ?_
      simp only [nz1, nz2, nz3]
      refine tk 7 33 (.int .i64 ((x35 : Nat) : Int)) rfl rfl (fun _ hw => run_mv rfl rfl) (⟨hm81.at 1 rfl, hm81.at 2 rfl⟩) ?_
      simp only [nz1, nz2, nz3]
      refine tk 8 34 (.pointer (some ⟨g26, 4, none⟩)) rfl rfl (fun _ hw => Sx.r_ix g26 4 (by decide) Tryd.underlying62 sz_3 rfl rfl (show (Value.int .i64 ((x35 : Nat) : Int)) = .int .i64 (((4 : Nat)) : Int) from by congr 1; omega)) (⟨hm81.at 1 rfl, hm81.at 2 rfl⟩) ?_
      simp only [nz1, nz2, nz3]
      refine tk 9 35 (.int .i64 12) rfl rfl (fun _ hw => r_load hw.2 rfl Tryd.underlying3 rfl rfl rfl) (⟨hm81.at 1 rfl, hm81.at 2 rfl⟩) ?_
      simp only [nz1, nz2, nz3]
      refine tk 10 36 (.int .i64 (((124 + 12) : Nat) : Int)) rfl rfl (fun _ hw => r_add 124 12 (show (124 + 12) < 9223372036854775808 from by omega) rfl rfl rfl) (⟨hm81.at 1 rfl, hm81.at 2 rfl⟩) ?_
      simp only [nz1, nz2, nz3]
      refine tk 11 37 (.string (tx ((s.take (124 + 12)).drop 124))) rfl rfl (fun _ hw => t_cut s 124 (124 + 12) (by omega) (by omega) Tryd.underlying9 rfl rfl rfl rfl) (⟨hm81.at 1 rfl, hm81.at 2 rfl⟩) ?_
      simp only [nz1, nz2, nz3]
      refine one_ready 12 (by kernel_rfl) ?_
      refine opd rfl (wanted_none rfl) (m_call hm81 38 (.tuple #[.int .i64 ((rget_m ((s.take (124 + 12)).drop 124)).1), .int .i64 ((rget_m ((s.take (124 + 12)).drop 124)).2)]) rfl (run_rget rfl rfl) (rget_any ((s.take (124 + 12)).drop 124)  _  (by first | omega | assumption | (rw [List.length_drop]; omega) | (rw [List.length_take]; omega) | (rw [List.length_drop, List.length_take]; omega) | (simp; done) | (simp; omega) | (simp only [List.length_append, List.length_cons, List.length_nil]; omega) | (simp only [List.length_append, List.length_cons, List.length_nil] at *; omega) | decide)) (fun w184 (hm185 : Mm none (fun _ => True) w w184 [.blk g4 #[.string (tx x36), .int .i64 ((x37 : Nat) : Int), .int .i64 ((x38 : Nat) : Int), .int .i64 ((x39 : Nat) : Int), .int .i64 ((x40 : Nat) : Int), .int .i64 ((x41 : Nat) : Int), .int .u8 ((x42.toNat : Nat) : Int), .string (tx x43), .string (tx x44)] 23, .blk g20 #[.int .i64 148, .int .i64 100, .int .i64 108, .int .i64 116, .int .i64 124, .int .i64 136] 62, .blk g26 #[.int .i64 8, .int .i64 8, .int .i64 8, .int .i64 8, .int .i64 12, .int .i64 12] 62, .blk g32 #[.int .i64 (x45), .int .i64 (x46), .int .i64 (x47), .int .i64 (x48), .int .i64 (x49), .int .i64 (x50)] 62]) => ?_))
      refine ⟨⟨hm185.at 1 rfl, hm185.at 2 rfl⟩, ?_⟩
      simp only [nz1, nz2, nz3]
      refine tk 13 25 (.tuple #[.int .i64 ((rget_m ((s.take (124 + 12)).drop 124)).1), .int .i64 ((rget_m ((s.take (124 + 12)).drop 124)).2)]) rfl rfl (fun _ hw => run_mv rfl rfl) (⟨hm185.at 1 rfl, hm185.at 2 rfl⟩) ?_
      simp only [nz1, nz2, nz3]
      refine tk 14 39 (.int .i64 ((rget_m ((s.take (124 + 12)).drop 124)).1)) rfl rfl (fun _ hw => run_ex rfl rfl rfl) (⟨hm185.at 1 rfl, hm185.at 2 rfl⟩) ?_
      simp only [nz1, nz2, nz3]
      refine tk 15 40 (.int .i64 ((rget_m ((s.take (124 + 12)).drop 124)).2)) rfl rfl (fun _ hw => run_ex rfl rfl rfl) (⟨hm185.at 1 rfl, hm185.at 2 rfl⟩) ?_
      simp only [nz1, nz2, nz3]
      refine one_ready 16 (by kernel_rfl) ?_
      refine opd rfl (wanted_none rfl) (w_value 8 (.int .i64 ((rget_m ((s.take (124 + 12)).drop 124)).1)) rfl (run_as rfl rfl) ⟨⟨hm185.at 1 rfl, hm185.at 2 rfl⟩, ?_⟩)
      simp only [nz1, nz2, nz3]
      refine one_ready 17 (by kernel_rfl) ?_
      refine opd rfl (wanted_none rfl) (w_value 9 (.int .i64 ((rget_m ((s.take (124 + 12)).drop 124)).2)) rfl (run_as rfl rfl) ⟨⟨hm185.at 1 rfl, hm185.at 2 rfl⟩, ?_⟩)
      simp only [nz1, nz2, nz3]
      refine wpAnyH_done (by kernel_rfl) ?_ _
      refine then_n (hK80 _ _ ?_)
      refine wp_seq_k (fun K186 hK186 => ?_)
      refine wp_seq_k (fun K187 hK187 => ?_)
      refine wp_region_lit ?_
      refine lvw 41 (.int .i64 ((rget_m ((s.take (124 + 12)).drop 124)).2)) rfl rfl (run_mv rfl rfl) ?_
      simp only [nz1, nz2, nz3]
      refine lvw 42 (.bool (decide (¬ (rget_m ((s.take (124 + 12)).drop 124)).2 = 0))) rfl rfl (z_neq ((rget_m ((s.take (124 + 12)).drop 124)).2) 0 rfl rfl rfl) ?_
      simp only [nz1, nz2, nz3]
      refine wpList_nil ?_
      refine then_n (hK187 _ _ ?_)
      refine cond_d (¬ (rget_m ((s.take (124 + 12)).drop 124)).2 = 0) rfl (fun hc188 => ?_) (fun hc188 => ?_)
      · refine wp_seq_k (fun K189 hK189 => ?_)
        refine wp_region_lit ?_
        refine lvw 43 (.agg #[.string (tx ([])), .int .i64 0, .int .i64 0, .int .i64 0, .int .i64 0, .int .i64 0, .int .u8 0, .string (tx ([])), .string (tx ([]))]) rfl rfl (by unfold execOp; go_simp; try (first | rfl | (repeat' (first | rfl | apply And.intro)))) ?_
        simp only [nz1, nz2, nz3]
        refine lvw 44 (.int .i64 ((rget_m ((s.take (124 + 12)).drop 124)).2)) rfl rfl (run_mv rfl rfl) ?_
        simp only [nz1, nz2, nz3]
        refine lst rfl (m_store 0 23 _ _ 0 (.agg #[.string (tx ([])), .int .i64 0, .int .i64 0, .int .i64 0, .int .i64 0, .int .i64 0, .int .u8 0, .string (tx ([])), .string (tx ([]))]) (old := #[.string (tx x36), .int .i64 ((x37 : Nat) : Int), .int .i64 ((x38 : Nat) : Int), .int .i64 ((x39 : Nat) : Int), .int .i64 ((x40 : Nat) : Int), .int .i64 ((x41 : Nat) : Int), .int .u8 ((x42.toNat : Nat) : Int), .string (tx x43), .string (tx x44)]) (new := #[.string (tx ([])), .int .i64 0, .int .i64 0, .int .i64 0, .int .i64 0, .int .i64 0, .int .u8 0, .string (tx ([])), .string (tx ([]))]) hm185 rfl rfl rfl rfl rfl (by exact sz_23) (show 0 + 9 ≤ 9 from by decide) (by simp [Value.cells, Value.oneCell']) rfl (fun w190 (hm191 : Mm none (fun _ => True) w w190 [.blk g4 #[.string (tx ([])), .int .i64 0, .int .i64 0, .int .i64 0, .int .i64 0, .int .i64 0, .int .u8 0, .string (tx ([])), .string (tx ([]))] 23, .blk g20 #[.int .i64 148, .int .i64 100, .int .i64 108, .int .i64 116, .int .i64 124, .int .i64 136] 62, .blk g26 #[.int .i64 8, .int .i64 8, .int .i64 8, .int .i64 8, .int .i64 12, .int .i64 12] 62, .blk g32 #[.int .i64 (x45), .int .i64 (x46), .int .i64 (x47), .int .i64 (x48), .int .i64 (x49), .int .i64 (x50)] 62]) => ?_))
        refine lvw 3 (.int .i64 ((rget_m ((s.take (124 + 12)).drop 124)).2)) rfl rfl (run_as rfl rfl) ?_
        simp only [nz1, nz2, nz3]
        refine wpList_nil ?_
        refine then_n (hK189 _ _ ?_)
        refine wp_ret ?_
        refine then_r ?_
        refine blk_r ?_
        refine then_r ?_
        refine then_r ?_
        refine blk_r ?_
        refine then_r ?_
        refine then_r ?_
        have he192 : rdecode_m_l0 s ((6 - 0) + 1) (0, ([]), 0, 0, 0, 0, 0, (UInt8.ofNat 0), ([]), ([]), 0, 0, 0, 0, 0, 0) = .inr ((Hdr.mk ([]) 0 0 0 0 0 (UInt8.ofNat 0) ([]) ([])), (rget_m ((s.take (124 + 12)).drop 124)).2) := (hi53.trans (show rdecode_m_b0 s (rdecode_m_l0 s k52) x35 x36 x37 x38 x39 x40 x41 x42 x43 x44 x45 x46 x47 x48 x49 x50 = .inr ((Hdr.mk ([]) 0 0 0 0 0 (UInt8.ofNat 0) ([]) ([])), (rget_m ((s.take (124 + 12)).drop 124)).2) from by unfold rdecode_m_b0; rw [if_pos hc78, if_neg hx83, if_neg hx108, if_neg hx133, if_neg hx158, if_pos hx183, if_pos hc188] <;> rfl))
        have he193 : rdecode_m s = ((Hdr.mk ([]) 0 0 0 0 0 (UInt8.ofNat 0) ([]) ([])), (rget_m ((s.take (124 + 12)).drop 124)).2) := (show rdecode_m s = ((Hdr.mk ([]) 0 0 0 0 0 (UInt8.ofNat 0) ([]) ([])), (rget_m ((s.take (124 + 12)).drop 124)).2) from by unfold rdecode_m; rw [if_neg hs7, if_neg hc12, he192] <;> rfl)
        exact ⟨rfl, .tuple #[.agg #[.string (tx ([])), .int .i64 0, .int .i64 0, .int .i64 0, .int .i64 0, .int .i64 0, .int .u8 0, .string (tx ([])), .string (tx ([]))], .int .i64 ((rget_m ((s.take (124 + 12)).drop 124)).2)], Mem.res_ct rfl rfl (hm191.at 0 rfl) Tryd.underlying23 rfl (by exact sz_23) rfl, ⟨by (rw [he193]; try rfl), hm191.below⟩⟩
      refine wp_skip ?_
      refine then_n (hK186 _ _ ?_)
      refine wp_seq_k (fun K194 hK194 => ?_)
      refine wp_region_lit ?_
      refine lvw 45 (.int .i64 ((x35 : Nat) : Int)) rfl rfl (run_mv rfl rfl) ?_
      simp only [nz1, nz2, nz3]
      refine lvw 46 (.int .i64 ((rget_m ((s.take (124 + 12)).drop 124)).1)) rfl rfl (run_mv rfl rfl) ?_
      simp only [nz1, nz2, nz3]
      refine lvw 47 (.pointer (some ⟨g32, 4, none⟩)) rfl rfl (Sx.r_ix g32 4 (by decide) Tryd.underlying62 sz_3 rfl rfl (show (Value.int .i64 ((x35 : Nat) : Int)) = .int .i64 (((4 : Nat)) : Int) from by congr 1; omega)) ?_
      simp only [nz1, nz2, nz3]
      refine lst rfl (m_store 3 3 _ _ 4 (.int .i64 ((rget_m ((s.take (124 + 12)).drop 124)).1)) (old := #[.int .i64 (x45), .int .i64 (x46), .int .i64 (x47), .int .i64 (x48), .int .i64 (x49), .int .i64 (x50)]) (new := #[.int .i64 (x45), .int .i64 (x46), .int .i64 (x47), .int .i64 (x48), .int .i64 ((rget_m ((s.take (124 + 12)).drop 124)).1), .int .i64 (x50)]) hm185 rfl rfl rfl rfl rfl (by exact sz_3) (show 4 + 1 ≤ 6 from by decide) (one_all rfl) rfl (fun w195 (hm196 : Mm none (fun _ => True) w w195 [.blk g4 #[.string (tx x36), .int .i64 ((x37 : Nat) : Int), .int .i64 ((x38 : Nat) : Int), .int .i64 ((x39 : Nat) : Int), .int .i64 ((x40 : Nat) : Int), .int .i64 ((x41 : Nat) : Int), .int .u8 ((x42.toNat : Nat) : Int), .string (tx x43), .string (tx x44)] 23, .blk g20 #[.int .i64 148, .int .i64 100, .int .i64 108, .int .i64 116, .int .i64 124, .int .i64 136] 62, .blk g26 #[.int .i64 8, .int .i64 8, .int .i64 8, .int .i64 8, .int .i64 12, .int .i64 12] 62, .blk g32 #[.int .i64 (x45), .int .i64 (x46), .int .i64 (x47), .int .i64 (x48), .int .i64 ((rget_m ((s.take (124 + 12)).drop 124)).1), .int .i64 (x50)] 62]) => ?_))
      refine wpList_nil ?_
      refine then_n (hK194 _ _ ?_)
      refine wp_seq_k (fun K197 hK197 => ?_)
      refine wp_region_lit ?_
      refine lvw 48 (.int .i64 ((x35 : Nat) : Int)) rfl rfl (run_mv rfl rfl) ?_
      simp only [nz1, nz2, nz3]
      refine lvb 49 (x35 = 0) rfl rfl (r_eql x35 0 rfl rfl rfl) (fun hs198 => ?_) (fun hs198 => ?_)
      rotate_left
      · simp only [nz1, nz2, nz3]
        refine lvw 50 (.bool false) rfl rfl (run_mv rfl rfl) ?_
        simp only [nz1, nz2, nz3]
        refine lst_skip 51 rfl rfl ?_
        simp only [nz1, nz2, nz3]
        refine lst_skip 52 rfl rfl ?_
        simp only [nz1, nz2, nz3]
        refine lst_skip 53 rfl rfl ?_
        simp only [nz1, nz2, nz3]
        refine lst_skip 54 rfl rfl ?_
        simp only [nz1, nz2, nz3]
        refine lvw 55 (.bool false) rfl rfl (run_pickf rfl rfl rfl) ?_
        simp only [nz1, nz2, nz3]
        refine wpList_nil ?_
        refine then_n (hK197 _ _ ?_)
        refine cond_f rfl ?_
        refine wp_skip ?_
        refine blk_n ?_
        refine then_n (hK79 _ _ ?_)
        refine wp_region_lit ?_
        refine lvw 23 (.int .i64 ((x35 : Nat) : Int)) rfl rfl (run_mv rfl rfl) ?_
        simp only [nz1, nz2, nz3]
        refine lvw 24 (.int .i64 (((x35 + 1) : Nat) : Int)) rfl rfl (r_add x35 1 (show (x35 + 1) < 9223372036854775808 from by omega) rfl rfl rfl) ?_
        simp only [nz1, nz2, nz3]
        refine lvw 7 (.int .i64 (((x35 + 1) : Nat) : Int)) rfl rfl (run_as rfl rfl) ?_
        simp only [nz1, nz2, nz3]
        refine wpList_nil ?_
        refine then_n (hR73 _ _ _ ⟨k52, (x35 + 1), x36, x37, x38, x39, x40, x41, x42, x43, x44, x45, x46, x47, x48, (rget_m ((s.take (124 + 12)).drop 124)).1, x50, (fun qq => bif Nat.blt qq 24 then List.getD [u0 0, .int .i64 ((rget_m ((s.take (124 + 12)).drop 124)).1), .int .i64 ((rget_m ((s.take (124 + 12)).drop 124)).2), .int .i64 ((x35 : Nat) : Int), .bool (decide (x35 < 6)), .int .i64 ((x35 : Nat) : Int), .int .i64 (((x35 + 1) : Nat) : Int), .tuple #[.int .i64 ((rget_m ((s.take (124 + 12)).drop 124)).1), .int .i64 ((rget_m ((s.take (124 + 12)).drop 124)).2)], .string (tx s), .int .i64 ((x35 : Nat) : Int), .pointer (some ⟨g20, 4, none⟩), .int .i64 124, .int .i64 ((x35 : Nat) : Int), .pointer (some ⟨g20, 4, none⟩), .int .i64 124, .int .i64 ((x35 : Nat) : Int), .pointer (some ⟨g26, 4, none⟩), .int .i64 12, .int .i64 (((124 + 12) : Nat) : Int), .string (tx ((s.take (124 + 12)).drop 124)), .tuple #[.int .i64 ((rget_m ((s.take (124 + 12)).drop 124)).1), .int .i64 ((rget_m ((s.take (124 + 12)).drop 124)).2)], .int .i64 ((rget_m ((s.take (124 + 12)).drop 124)).1), .int .i64 ((rget_m ((s.take (124 + 12)).drop 124)).2), .int .i64 ((rget_m ((s.take (124 + 12)).drop 124)).2)] qq undef else List.getD [.bool (decide (¬ (rget_m ((s.take (124 + 12)).drop 124)).2 = 0)), u0 25, u0 26, .int .i64 ((x35 : Nat) : Int), .int .i64 ((rget_m ((s.take (124 + 12)).drop 124)).1), .pointer (some ⟨g32, 4, none⟩), .int .i64 ((x35 : Nat) : Int), .bool false, .bool false, undef, undef, undef, undef, .bool false, u0 38] (qq - 24) undef), rfl, (by first | omega | (simp; omega) | (simp at *; omega)), (hi53.trans (show rdecode_m_b0 s (rdecode_m_l0 s k52) x35 x36 x37 x38 x39 x40 x41 x42 x43 x44 x45 x46 x47 x48 x49 x50 = rdecode_m_l0 s k52 ((x35 + 1), x36, x37, x38, x39, x40, x41, x42, x43, x44, x45, x46, x47, x48, (rget_m ((s.take (124 + 12)).drop 124)).1, x50) from by unfold rdecode_m_b0; rw [if_pos hc78, if_neg hx83, if_neg hx108, if_neg hx133, if_neg hx158, if_pos hx183, if_neg hc188, if_neg hs198] <;> rfl)), (by first | omega | (simp; done) | (simp; omega) | (simp at *; omega)), rfl, hm196⟩ ?_)
        omega
      simp only [nz1, nz2, nz3]
      refine lvw 50 (.bool true) rfl rfl (run_mv rfl rfl) ?_
      simp only [nz1, nz2, nz3]
      refine lvw 51 (.int .i64 ((rget_m ((s.take (124 + 12)).drop 124)).1)) rfl rfl (run_mv rfl rfl) ?_
      simp only [nz1, nz2, nz3]
      refine lvw 52 (.string (tx s)) rfl rfl (run_mv rfl rfl) ?_
      simp only [nz1, nz2, nz3]
      refine lst rfl (m_call hm196 53 (.int .i64 ((rsum_m s))) rfl (run_rsum rfl rfl) (rsum_any s  _  ) (fun w199 (hm200 : Mm none (fun _ => True) w w199 [.blk g4 #[.string (tx x36), .int .i64 ((x37 : Nat) : Int), .int .i64 ((x38 : Nat) : Int), .int .i64 ((x39 : Nat) : Int), .int .i64 ((x40 : Nat) : Int), .int .i64 ((x41 : Nat) : Int), .int .u8 ((x42.toNat : Nat) : Int), .string (tx x43), .string (tx x44)] 23, .blk g20 #[.int .i64 148, .int .i64 100, .int .i64 108, .int .i64 116, .int .i64 124, .int .i64 136] 62, .blk g26 #[.int .i64 8, .int .i64 8, .int .i64 8, .int .i64 8, .int .i64 12, .int .i64 12] 62, .blk g32 #[.int .i64 (x45), .int .i64 (x46), .int .i64 (x47), .int .i64 (x48), .int .i64 ((rget_m ((s.take (124 + 12)).drop 124)).1), .int .i64 (x50)] 62]) => ?_))
      have hf201 : 0 ≤ (rsum_m s) ∧ (rsum_m s) ≤ 131072 := rsum_rng s
      simp only [nz1, nz2, nz3]
      refine lvw 54 (.bool (decide (¬ (rget_m ((s.take (124 + 12)).drop 124)).1 = (rsum_m s)))) rfl rfl (z_neq ((rget_m ((s.take (124 + 12)).drop 124)).1) (rsum_m s) rfl rfl rfl) ?_
      simp only [nz1, nz2, nz3]
      refine lvw 55 (.bool (decide (¬ (rget_m ((s.take (124 + 12)).drop 124)).1 = (rsum_m s)))) rfl rfl (run_pick rfl rfl rfl) ?_
      simp only [nz1, nz2, nz3]
      refine wpList_nil ?_
      refine then_n (hK197 _ _ ?_)
      refine cond_d (¬ (rget_m ((s.take (124 + 12)).drop 124)).1 = (rsum_m s)) rfl (fun hc202 => ?_) (fun hc202 => ?_)
      rotate_left
      · refine wp_skip ?_
        refine blk_n ?_
        refine then_n (hK79 _ _ ?_)
        refine wp_region_lit ?_
        refine lvw 23 (.int .i64 ((x35 : Nat) : Int)) rfl rfl (run_mv rfl rfl) ?_
        simp only [nz1, nz2, nz3]
        refine lvw 24 (.int .i64 (((x35 + 1) : Nat) : Int)) rfl rfl (r_add x35 1 (show (x35 + 1) < 9223372036854775808 from by omega) rfl rfl rfl) ?_
        simp only [nz1, nz2, nz3]
        refine lvw 7 (.int .i64 (((x35 + 1) : Nat) : Int)) rfl rfl (run_as rfl rfl) ?_
        simp only [nz1, nz2, nz3]
        refine wpList_nil ?_
        refine then_n (hR73 _ _ _ ⟨k52, (x35 + 1), x36, x37, x38, x39, x40, x41, x42, x43, x44, x45, x46, x47, x48, (rget_m ((s.take (124 + 12)).drop 124)).1, x50, (fun qq => bif Nat.blt qq 24 then List.getD [u0 0, .int .i64 ((rget_m ((s.take (124 + 12)).drop 124)).1), .int .i64 ((rget_m ((s.take (124 + 12)).drop 124)).2), .int .i64 ((x35 : Nat) : Int), .bool (decide (x35 < 6)), .int .i64 ((x35 : Nat) : Int), .int .i64 (((x35 + 1) : Nat) : Int), .tuple #[.int .i64 ((rget_m ((s.take (124 + 12)).drop 124)).1), .int .i64 ((rget_m ((s.take (124 + 12)).drop 124)).2)], .string (tx s), .int .i64 ((x35 : Nat) : Int), .pointer (some ⟨g20, 4, none⟩), .int .i64 124, .int .i64 ((x35 : Nat) : Int), .pointer (some ⟨g20, 4, none⟩), .int .i64 124, .int .i64 ((x35 : Nat) : Int), .pointer (some ⟨g26, 4, none⟩), .int .i64 12, .int .i64 (((124 + 12) : Nat) : Int), .string (tx ((s.take (124 + 12)).drop 124)), .tuple #[.int .i64 ((rget_m ((s.take (124 + 12)).drop 124)).1), .int .i64 ((rget_m ((s.take (124 + 12)).drop 124)).2)], .int .i64 ((rget_m ((s.take (124 + 12)).drop 124)).1), .int .i64 ((rget_m ((s.take (124 + 12)).drop 124)).2), .int .i64 ((rget_m ((s.take (124 + 12)).drop 124)).2)] qq undef else List.getD [.bool (decide (¬ (rget_m ((s.take (124 + 12)).drop 124)).2 = 0)), u0 25, u0 26, .int .i64 ((x35 : Nat) : Int), .int .i64 ((rget_m ((s.take (124 + 12)).drop 124)).1), .pointer (some ⟨g32, 4, none⟩), .int .i64 ((x35 : Nat) : Int), .bool true, .bool true, .int .i64 ((rget_m ((s.take (124 + 12)).drop 124)).1), .string (tx s), .int .i64 ((rsum_m s)), .bool (decide (¬ (rget_m ((s.take (124 + 12)).drop 124)).1 = (rsum_m s))), .bool (decide (¬ (rget_m ((s.take (124 + 12)).drop 124)).1 = (rsum_m s))), u0 38] (qq - 24) undef), rfl, (by first | omega | (simp; omega) | (simp at *; omega)), (hi53.trans (show rdecode_m_b0 s (rdecode_m_l0 s k52) x35 x36 x37 x38 x39 x40 x41 x42 x43 x44 x45 x46 x47 x48 x49 x50 = rdecode_m_l0 s k52 ((x35 + 1), x36, x37, x38, x39, x40, x41, x42, x43, x44, x45, x46, x47, x48, (rget_m ((s.take (124 + 12)).drop 124)).1, x50) from by unfold rdecode_m_b0; rw [if_pos hc78, if_neg hx83, if_neg hx108, if_neg hx133, if_neg hx158, if_pos hx183, if_neg hc188, if_pos hs198, if_neg hc202] <;> rfl)), (by first | omega | (simp; done) | (simp; omega) | (simp at *; omega)), rfl, hm200⟩ ?_)
        omega
      refine wp_seq_k (fun K203 hK203 => ?_)
      refine wp_region_lit ?_
      refine lvw 56 (.agg #[.string (tx ([])), .int .i64 0, .int .i64 0, .int .i64 0, .int .i64 0, .int .i64 0, .int .u8 0, .string (tx ([])), .string (tx ([]))]) rfl rfl (by unfold execOp; go_simp; try (first | rfl | (repeat' (first | rfl | apply And.intro)))) ?_
      simp only [nz1, nz2, nz3]
      refine lst rfl (m_store 0 23 _ _ 0 (.agg #[.string (tx ([])), .int .i64 0, .int .i64 0, .int .i64 0, .int .i64 0, .int .i64 0, .int .u8 0, .string (tx ([])), .string (tx ([]))]) (old := #[.string (tx x36), .int .i64 ((x37 : Nat) : Int), .int .i64 ((x38 : Nat) : Int), .int .i64 ((x39 : Nat) : Int), .int .i64 ((x40 : Nat) : Int), .int .i64 ((x41 : Nat) : Int), .int .u8 ((x42.toNat : Nat) : Int), .string (tx x43), .string (tx x44)]) (new := #[.string (tx ([])), .int .i64 0, .int .i64 0, .int .i64 0, .int .i64 0, .int .i64 0, .int .u8 0, .string (tx ([])), .string (tx ([]))]) hm200 rfl rfl rfl rfl rfl (by exact sz_23) (show 0 + 9 ≤ 9 from by decide) (by simp [Value.cells, Value.oneCell']) rfl (fun w204 (hm205 : Mm none (fun _ => True) w w204 [.blk g4 #[.string (tx ([])), .int .i64 0, .int .i64 0, .int .i64 0, .int .i64 0, .int .i64 0, .int .u8 0, .string (tx ([])), .string (tx ([]))] 23, .blk g20 #[.int .i64 148, .int .i64 100, .int .i64 108, .int .i64 116, .int .i64 124, .int .i64 136] 62, .blk g26 #[.int .i64 8, .int .i64 8, .int .i64 8, .int .i64 8, .int .i64 12, .int .i64 12] 62, .blk g32 #[.int .i64 (x45), .int .i64 (x46), .int .i64 (x47), .int .i64 (x48), .int .i64 ((rget_m ((s.take (124 + 12)).drop 124)).1), .int .i64 (x50)] 62]) => ?_))
      refine lvw 3 (.int .i64 2) rfl rfl (run_as rfl rfl) ?_
      simp only [nz1, nz2, nz3]
      refine wpList_nil ?_
      refine then_n (hK203 _ _ ?_)
      refine wp_ret ?_
      refine blk_r ?_
      refine then_r ?_
      refine then_r ?_
      refine blk_r ?_
      refine then_r ?_
      refine then_r ?_
      have he206 : rdecode_m_l0 s ((6 - 0) + 1) (0, ([]), 0, 0, 0, 0, 0, (UInt8.ofNat 0), ([]), ([]), 0, 0, 0, 0, 0, 0) = .inr ((Hdr.mk ([]) 0 0 0 0 0 (UInt8.ofNat 0) ([]) ([])), 2) := (hi53.trans (show rdecode_m_b0 s (rdecode_m_l0 s k52) x35 x36 x37 x38 x39 x40 x41 x42 x43 x44 x45 x46 x47 x48 x49 x50 = .inr ((Hdr.mk ([]) 0 0 0 0 0 (UInt8.ofNat 0) ([]) ([])), 2) from by unfold rdecode_m_b0; rw [if_pos hc78, if_neg hx83, if_neg hx108, if_neg hx133, if_neg hx158, if_pos hx183, if_neg hc188, if_pos hs198, if_pos hc202] <;> rfl))
      have he207 : rdecode_m s = ((Hdr.mk ([]) 0 0 0 0 0 (UInt8.ofNat 0) ([]) ([])), 2) := (show rdecode_m s = ((Hdr.mk ([]) 0 0 0 0 0 (UInt8.ofNat 0) ([]) ([])), 2) from by unfold rdecode_m; rw [if_neg hs7, if_neg hc12, he206] <;> rfl)
      exact ⟨rfl, .tuple #[.agg #[.string (tx ([])), .int .i64 0, .int .i64 0, .int .i64 0, .int .i64 0, .int .i64 0, .int .u8 0, .string (tx ([])), .string (tx ([]))], .int .i64 2], Mem.res_ct rfl rfl (hm205.at 0 rfl) Tryd.underlying23 rfl (by exact sz_23) rfl, ⟨by (rw [he207]; try rfl), hm205.below⟩⟩
    have hx208 : x35 = 5 := by omega
    refine tk 2 28 (.pointer (some ⟨g20, 5, none⟩)) rfl rfl (fun _ hw => Sx.r_ix g20 5 (by decide) Tryd.underlying62 sz_3 rfl rfl (show (Value.int .i64 ((x35 : Nat) : Int)) = .int .i64 (((5 : Nat)) : Int) from by congr 1; omega)) (⟨hm81.at 1 rfl, hm81.at 2 rfl⟩) ?_
    simp only [nz1, nz2, nz3]
    refine tk 3 29 (.int .i64 136) rfl rfl (fun _ hw => r_load hw.1 rfl Tryd.underlying3 rfl rfl rfl) (⟨hm81.at 1 rfl, hm81.at 2 rfl⟩) ?_
    simp only [nz1, nz2, nz3]
    refine tk 4 30 (.int .i64 ((x35 : Nat) : Int)) rfl rfl (fun _ hw => run_mv rfl rfl) (⟨hm81.at 1 rfl, hm81.at 2 rfl⟩) ?_
    simp only [nz1, nz2, nz3]
    refine tk 5 31 (.pointer (some ⟨g20, 5, none⟩)) rfl rfl (fun _ hw => Sx.r_ix g20 5 (by decide) Tryd.underlying62 sz_3 rfl rfl (show (Value.int .i64 ((x35 : Nat) : Int)) = .int .i64 (((5 : Nat)) : Int) from by congr 1; omega)) (⟨hm81.at 1 rfl, hm81.at 2 rfl⟩) ?_
    simp only [nz1, nz2, nz3]
    refine tk 6 32 (.int .i64 136) rfl rfl (fun _ hw => r_load hw.1 rfl Tryd.underlying3 rfl rfl rfl) (⟨hm81.at 1 rfl, hm81.at 2 rfl⟩) ?_
    simp only [nz1, nz2, nz3]
    refine tk 7 33 (.int .i64 ((x35 : Nat) : Int)) rfl rfl (fun _ hw => run_mv rfl rfl) (⟨hm81.at 1 rfl, hm81.at 2 rfl⟩) ?_
    simp only [nz1, nz2, nz3]
    refine tk 8 34 (.pointer (some ⟨g26, 5, none⟩)) rfl rfl (fun _ hw => Sx.r_ix g26 5 (by decide) Tryd.underlying62 sz_3 rfl rfl (show (Value.int .i64 ((x35 : Nat) : Int)) = .int .i64 (((5 : Nat)) : Int) from by congr 1; omega)) (⟨hm81.at 1 rfl, hm81.at 2 rfl⟩) ?_
    simp only [nz1, nz2, nz3]
    refine tk 9 35 (.int .i64 12) rfl rfl (fun _ hw => r_load hw.2 rfl Tryd.underlying3 rfl rfl rfl) (⟨hm81.at 1 rfl, hm81.at 2 rfl⟩) ?_
    simp only [nz1, nz2, nz3]
    refine tk 10 36 (.int .i64 (((136 + 12) : Nat) : Int)) rfl rfl (fun _ hw => r_add 136 12 (show (136 + 12) < 9223372036854775808 from by omega) rfl rfl rfl) (⟨hm81.at 1 rfl, hm81.at 2 rfl⟩) ?_
    simp only [nz1, nz2, nz3]
    refine tk 11 37 (.string (tx ((s.take (136 + 12)).drop 136))) rfl rfl (fun _ hw => t_cut s 136 (136 + 12) (by omega) (by omega) Tryd.underlying9 rfl rfl rfl rfl) (⟨hm81.at 1 rfl, hm81.at 2 rfl⟩) ?_
    simp only [nz1, nz2, nz3]
    refine one_ready 12 (by kernel_rfl) ?_
    refine opd rfl (wanted_none rfl) (m_call hm81 38 (.tuple #[.int .i64 ((rget_m ((s.take (136 + 12)).drop 136)).1), .int .i64 ((rget_m ((s.take (136 + 12)).drop 136)).2)]) rfl (run_rget rfl rfl) (rget_any ((s.take (136 + 12)).drop 136)  _  (by first | omega | assumption | (rw [List.length_drop]; omega) | (rw [List.length_take]; omega) | (rw [List.length_drop, List.length_take]; omega) | (simp; done) | (simp; omega) | (simp only [List.length_append, List.length_cons, List.length_nil]; omega) | (simp only [List.length_append, List.length_cons, List.length_nil] at *; omega) | decide)) (fun w209 (hm210 : Mm none (fun _ => True) w w209 [.blk g4 #[.string (tx x36), .int .i64 ((x37 : Nat) : Int), .int .i64 ((x38 : Nat) : Int), .int .i64 ((x39 : Nat) : Int), .int .i64 ((x40 : Nat) : Int), .int .i64 ((x41 : Nat) : Int), .int .u8 ((x42.toNat : Nat) : Int), .string (tx x43), .string (tx x44)] 23, .blk g20 #[.int .i64 148, .int .i64 100, .int .i64 108, .int .i64 116, .int .i64 124, .int .i64 136] 62, .blk g26 #[.int .i64 8, .int .i64 8, .int .i64 8, .int .i64 8, .int .i64 12, .int .i64 12] 62, .blk g32 #[.int .i64 (x45), .int .i64 (x46), .int .i64 (x47), .int .i64 (x48), .int .i64 (x49), .int .i64 (x50)] 62]) => ?_))
    refine ⟨⟨hm210.at 1 rfl, hm210.at 2 rfl⟩, ?_⟩
    simp only [nz1, nz2, nz3]
    refine tk 13 25 (.tuple #[.int .i64 ((rget_m ((s.take (136 + 12)).drop 136)).1), .int .i64 ((rget_m ((s.take (136 + 12)).drop 136)).2)]) rfl rfl (fun _ hw => run_mv rfl rfl) (⟨hm210.at 1 rfl, hm210.at 2 rfl⟩) ?_
    simp only [nz1, nz2, nz3]
    refine tk 14 39 (.int .i64 ((rget_m ((s.take (136 + 12)).drop 136)).1)) rfl rfl (fun _ hw => run_ex rfl rfl rfl) (⟨hm210.at 1 rfl, hm210.at 2 rfl⟩) ?_
    simp only [nz1, nz2, nz3]
    refine tk 15 40 (.int .i64 ((rget_m ((s.take (136 + 12)).drop 136)).2)) rfl rfl (fun _ hw => run_ex rfl rfl rfl) (⟨hm210.at 1 rfl, hm210.at 2 rfl⟩) ?_
    simp only [nz1, nz2, nz3]
    refine one_ready 16 (by kernel_rfl) ?_
    refine opd rfl (wanted_none rfl) (w_value 8 (.int .i64 ((rget_m ((s.take (136 + 12)).drop 136)).1)) rfl (run_as rfl rfl) ⟨⟨hm210.at 1 rfl, hm210.at 2 rfl⟩, ?_⟩)
    simp only [nz1, nz2, nz3]
    refine one_ready 17 (by kernel_rfl) ?_
    refine opd rfl (wanted_none rfl) (w_value 9 (.int .i64 ((rget_m ((s.take (136 + 12)).drop 136)).2)) rfl (run_as rfl rfl) ⟨⟨hm210.at 1 rfl, hm210.at 2 rfl⟩, ?_⟩)
    simp only [nz1, nz2, nz3]
    refine wpAnyH_done (by kernel_rfl) ?_ _
    refine then_n (hK80 _ _ ?_)
    refine wp_seq_k (fun K211 hK211 => ?_)
    refine wp_seq_k (fun K212 hK212 => ?_)
    refine wp_region_lit ?_
    refine lvw 41 (.int .i64 ((rget_m ((s.take (136 + 12)).drop 136)).2)) rfl rfl (run_mv rfl rfl) ?_
    simp only [nz1, nz2, nz3]
    refine lvw 42 (.bool (decide (¬ (rget_m ((s.take (136 + 12)).drop 136)).2 = 0))) rfl rfl (z_neq ((rget_m ((s.take (136 + 12)).drop 136)).2) 0 rfl rfl rfl) ?_
    simp only [nz1, nz2, nz3]
    refine wpList_nil ?_
    refine then_n (hK212 _ _ ?_)
    refine cond_d (¬ (rget_m ((s.take (136 + 12)).drop 136)).2 = 0) rfl (fun hc213 => ?_) (fun hc213 => ?_)
    · refine wp_seq_k (fun K214 hK214 => ?_)
      refine wp_region_lit ?_
      refine lvw 43 (.agg #[.string (tx ([])), .int .i64 0, .int .i64 0, .int .i64 0, .int .i64 0, .int .i64 0, .int .u8 0, .string (tx ([])), .string (tx ([]))]) rfl rfl (by unfold execOp; go_simp; try (first | rfl | (repeat' (first | rfl | apply And.intro)))) ?_
      simp only [nz1, nz2, nz3]
      refine lvw 44 (.int .i64 ((rget_m ((s.take (136 + 12)).drop 136)).2)) rfl rfl (run_mv rfl rfl) ?_
      simp only [nz1, nz2, nz3]
      refine lst rfl (m_store 0 23 _ _ 0 (.agg #[.string (tx ([])), .int .i64 0, .int .i64 0, .int .i64 0, .int .i64 0, .int .i64 0, .int .u8 0, .string (tx ([])), .string (tx ([]))]) (old := #[.string (tx x36), .int .i64 ((x37 : Nat) : Int), .int .i64 ((x38 : Nat) : Int), .int .i64 ((x39 : Nat) : Int), .int .i64 ((x40 : Nat) : Int), .int .i64 ((x41 : Nat) : Int), .int .u8 ((x42.toNat : Nat) : Int), .string (tx x43), .string (tx x44)]) (new := #[.string (tx ([])), .int .i64 0, .int .i64 0, .int .i64 0, .int .i64 0, .int .i64 0, .int .u8 0, .string (tx ([])), .string (tx ([]))]) hm210 rfl rfl rfl rfl rfl (by exact sz_23) (show 0 + 9 ≤ 9 from by decide) (by simp [Value.cells, Value.oneCell']) rfl (fun w215 (hm216 : Mm none (fun _ => True) w w215 [.blk g4 #[.string (tx ([])), .int .i64 0, .int .i64 0, .int .i64 0, .int .i64 0, .int .i64 0, .int .u8 0, .string (tx ([])), .string (tx ([]))] 23, .blk g20 #[.int .i64 148, .int .i64 100, .int .i64 108, .int .i64 116, .int .i64 124, .int .i64 136] 62, .blk g26 #[.int .i64 8, .int .i64 8, .int .i64 8, .int .i64 8, .int .i64 12, .int .i64 12] 62, .blk g32 #[.int .i64 (x45), .int .i64 (x46), .int .i64 (x47), .int .i64 (x48), .int .i64 (x49), .int .i64 (x50)] 62]) => ?_))
      refine lvw 3 (.int .i64 ((rget_m ((s.take (136 + 12)).drop 136)).2)) rfl rfl (run_as rfl rfl) ?_
      simp only [nz1, nz2, nz3]
      refine wpList_nil ?_
      refine then_n (hK214 _ _ ?_)
      refine wp_ret ?_
      refine then_r ?_
      refine blk_r ?_
      refine then_r ?_
      refine then_r ?_
      refine blk_r ?_
      refine then_r ?_
      refine then_r ?_
      have he217 : rdecode_m_l0 s ((6 - 0) + 1) (0, ([]), 0, 0, 0, 0, 0, (UInt8.ofNat 0), ([]), ([]), 0, 0, 0, 0, 0, 0) = .inr ((Hdr.mk ([]) 0 0 0 0 0 (UInt8.ofNat 0) ([]) ([])), (rget_m ((s.take (136 + 12)).drop 136)).2) := (hi53.trans (show rdecode_m_b0 s (rdecode_m_l0 s k52) x35 x36 x37 x38 x39 x40 x41 x42 x43 x44 x45 x46 x47 x48 x49 x50 = .inr ((Hdr.mk ([]) 0 0 0 0 0 (UInt8.ofNat 0) ([]) ([])), (rget_m ((s.take (136 + 12)).drop 136)).2) from by unfold rdecode_m_b0; rw [if_pos hc78, if_neg hx83, if_neg hx108, if_neg hx133, if_neg hx158, if_neg hx183, if_pos hc213] <;> rfl))
      have he218 : rdecode_m s = ((Hdr.mk ([]) 0 0 0 0 0 (UInt8.ofNat 0) ([]) ([])), (rget_m ((s.take (136 + 12)).drop 136)).2) := (show rdecode_m s = ((Hdr.mk ([]) 0 0 0 0 0 (UInt8.ofNat 0) ([]) ([])), (rget_m ((s.take (136 + 12)).drop 136)).2) from by unfold rdecode_m; rw [if_neg hs7, if_neg hc12, he217] <;> rfl)
      exact ⟨rfl, .tuple #[.agg #[.string (tx ([])), .int .i64 0, .int .i64 0, .int .i64 0, .int .i64 0, .int .i64 0, .int .u8 0, .string (tx ([])), .string (tx ([]))], .int .i64 ((rget_m ((s.take (136 + 12)).drop 136)).2)], Mem.res_ct rfl rfl (hm216.at 0 rfl) Tryd.underlying23 rfl (by exact sz_23) rfl, ⟨by (rw [he218]; try rfl), hm216.below⟩⟩
    refine wp_skip ?_
    refine then_n (hK211 _ _ ?_)
    refine wp_seq_k (fun K219 hK219 => ?_)
    refine wp_region_lit ?_
    refine lvw 45 (.int .i64 ((x35 : Nat) : Int)) rfl rfl (run_mv rfl rfl) ?_
    simp only [nz1, nz2, nz3]
    refine lvw 46 (.int .i64 ((rget_m ((s.take (136 + 12)).drop 136)).1)) rfl rfl (run_mv rfl rfl) ?_
    simp only [nz1, nz2, nz3]
    refine lvw 47 (.pointer (some ⟨g32, 5, none⟩)) rfl rfl (Sx.r_ix g32 5 (by decide) Tryd.underlying62 sz_3 rfl rfl (show (Value.int .i64 ((x35 : Nat) : Int)) = .int .i64 (((5 : Nat)) : Int) from by congr 1; omega)) ?_
    simp only [nz1, nz2, nz3]
    refine lst rfl (m_store 3 3 _ _ 5 (.int .i64 ((rget_m ((s.take (136 + 12)).drop 136)).1)) (old := #[.int .i64 (x45), .int .i64 (x46), .int .i64 (x47), .int .i64 (x48), .int .i64 (x49), .int .i64 (x50)]) (new := #[.int .i64 (x45), .int .i64 (x46), .int .i64 (x47), .int .i64 (x48), .int .i64 (x49), .int .i64 ((rget_m ((s.take (136 + 12)).drop 136)).1)]) hm210 rfl rfl rfl rfl rfl (by exact sz_3) (show 5 + 1 ≤ 6 from by decide) (one_all rfl) rfl (fun w220 (hm221 : Mm none (fun _ => True) w w220 [.blk g4 #[.string (tx x36), .int .i64 ((x37 : Nat) : Int), .int .i64 ((x38 : Nat) : Int), .int .i64 ((x39 : Nat) : Int), .int .i64 ((x40 : Nat) : Int), .int .i64 ((x41 : Nat) : Int), .int .u8 ((x42.toNat : Nat) : Int), .string (tx x43), .string (tx x44)] 23, .blk g20 #[.int .i64 148, .int .i64 100, .int .i64 108, .int .i64 116, .int .i64 124, .int .i64 136] 62, .blk g26 #[.int .i64 8, .int .i64 8, .int .i64 8, .int .i64 8, .int .i64 12, .int .i64 12] 62, .blk g32 #[.int .i64 (x45), .int .i64 (x46), .int .i64 (x47), .int .i64 (x48), .int .i64 (x49), .int .i64 ((rget_m ((s.take (136 + 12)).drop 136)).1)] 62]) => ?_))
    refine wpList_nil ?_
    refine then_n (hK219 _ _ ?_)
    refine wp_seq_k (fun K222 hK222 => ?_)
    refine wp_region_lit ?_
    refine lvw 48 (.int .i64 ((x35 : Nat) : Int)) rfl rfl (run_mv rfl rfl) ?_
    simp only [nz1, nz2, nz3]
    refine lvb 49 (x35 = 0) rfl rfl (r_eql x35 0 rfl rfl rfl) (fun hs223 => ?_) (fun hs223 => ?_)
    rotate_left
    · simp only [nz1, nz2, nz3]
      refine lvw 50 (.bool false) rfl rfl (run_mv rfl rfl) ?_
      simp only [nz1, nz2, nz3]
      refine lst_skip 51 rfl rfl ?_
      simp only [nz1, nz2, nz3]
      refine lst_skip 52 rfl rfl ?_
      simp only [nz1, nz2, nz3]
      refine lst_skip 53 rfl rfl ?_
      simp only [nz1, nz2, nz3]
      refine lst_skip 54 rfl rfl ?_
      simp only [nz1, nz2, nz3]
      refine lvw 55 (.bool false) rfl rfl (run_pickf rfl rfl rfl) ?_
      simp only [nz1, nz2, nz3]
      refine wpList_nil ?_
      refine then_n (hK222 _ _ ?_)
      refine cond_f rfl ?_
      refine wp_skip ?_
      refine blk_n ?_
      refine then_n (hK79 _ _ ?_)
      refine wp_region_lit ?_
      refine lvw 23 (.int .i64 ((x35 : Nat) : Int)) rfl rfl (run_mv rfl rfl) ?_
      simp only [nz1, nz2, nz3]
      refine lvw 24 (.int .i64 (((x35 + 1) : Nat) : Int)) rfl rfl (r_add x35 1 (show (x35 + 1) < 9223372036854775808 from by omega) rfl rfl rfl) ?_
      simp only [nz1, nz2, nz3]
      refine lvw 7 (.int .i64 (((x35 + 1) : Nat) : Int)) rfl rfl (run_as rfl rfl) ?_
      simp only [nz1, nz2, nz3]
      refine wpList_nil ?_
      refine then_n (hR73 _ _ _ ⟨k52, (x35 + 1), x36, x37, x38, x39, x40, x41, x42, x43, x44, x45, x46, x47, x48, x49, (rget_m ((s.take (136 + 12)).drop 136)).1, (fun qq => bif Nat.blt qq 24 then List.getD [u0 0, .int .i64 ((rget_m ((s.take (136 + 12)).drop 136)).1), .int .i64 ((rget_m ((s.take (136 + 12)).drop 136)).2), .int .i64 ((x35 : Nat) : Int), .bool (decide (x35 < 6)), .int .i64 ((x35 : Nat) : Int), .int .i64 (((x35 + 1) : Nat) : Int), .tuple #[.int .i64 ((rget_m ((s.take (136 + 12)).drop 136)).1), .int .i64 ((rget_m ((s.take (136 + 12)).drop 136)).2)], .string (tx s), .int .i64 ((x35 : Nat) : Int), .pointer (some ⟨g20, 5, none⟩), .int .i64 136, .int .i64 ((x35 : Nat) : Int), .pointer (some ⟨g20, 5, none⟩), .int .i64 136, .int .i64 ((x35 : Nat) : Int), .pointer (some ⟨g26, 5, none⟩), .int .i64 12, .int .i64 (((136 + 12) : Nat) : Int), .string (tx ((s.take (136 + 12)).drop 136)), .tuple #[.int .i64 ((rget_m ((s.take (136 + 12)).drop 136)).1), .int .i64 ((rget_m ((s.take (136 + 12)).drop 136)).2)], .int .i64 ((rget_m ((s.take (136 + 12)).drop 136)).1), .int .i64 ((rget_m ((s.take (136 + 12)).drop 136)).2), .int .i64 ((rget_m ((s.take (136 + 12)).drop 136)).2)] qq undef else List.getD [.bool (decide (¬ (rget_m ((s.take (136 + 12)).drop 136)).2 = 0)), u0 25, u0 26, .int .i64 ((x35 : Nat) : Int), .int .i64 ((rget_m ((s.take (136 + 12)).drop 136)).1), .pointer (some ⟨g32, 5, none⟩), .int .i64 ((x35 : Nat) : Int), .bool false, .bool false, undef, undef, undef, undef, .bool false, u0 38] (qq - 24) undef), rfl, (by first | omega | (simp; omega) | (simp at *; omega)), (hi53.trans (show rdecode_m_b0 s (rdecode_m_l0 s k52) x35 x36 x37 x38 x39 x40 x41 x42 x43 x44 x45 x46 x47 x48 x49 x50 = rdecode_m_l0 s k52 ((x35 + 1), x36, x37, x38, x39, x40, x41, x42, x43, x44, x45, x46, x47, x48, x49, (rget_m ((s.take (136 + 12)).drop 136)).1) from by unfold rdecode_m_b0; rw [if_pos hc78, if_neg hx83, if_neg hx108, if_neg hx133, if_neg hx158, if_neg hx183, if_neg hc213, if_neg hs223] <;> rfl)), (by first | omega | (simp; done) | (simp; omega) | (simp at *; omega)), rfl, hm221⟩ ?_)
      omega
    simp only [nz1, nz2, nz3]
    refine lvw 50 (.bool true) rfl rfl (run_mv rfl rfl) ?_
    simp only [nz1, nz2, nz3]
    refine lvw 51 (.int .i64 ((rget_m ((s.take (136 + 12)).drop 136)).1)) rfl rfl (run_mv rfl rfl) ?_
    simp only [nz1, nz2, nz3]
    refine lvw 52 (.string (tx s)) rfl rfl (run_mv rfl rfl) ?_
    simp only [nz1, nz2, nz3]
    refine lst rfl (m_call hm221 53 (.int .i64 ((rsum_m s))) rfl (run_rsum rfl rfl) (rsum_any s  _  ) (fun w224 (hm225 : Mm none (fun _ => True) w w224 [.blk g4 #[.string (tx x36), .int .i64 ((x37 : Nat) : Int), .int .i64 ((x38 : Nat) : Int), .int .i64 ((x39 : Nat) : Int), .int .i64 ((x40 : Nat) : Int), .int .i64 ((x41 : Nat) : Int), .int .u8 ((x42.toNat : Nat) : Int), .string (tx x43), .string (tx x44)] 23, .blk g20 #[.int .i64 148, .int .i64 100, .int .i64 108, .int .i64 116, .int .i64 124, .int .i64 136] 62, .blk g26 #[.int .i64 8, .int .i64 8, .int .i64 8, .int .i64 8, .int .i64 12, .int .i64 12] 62, .blk g32 #[.int .i64 (x45), .int .i64 (x46), .int .i64 (x47), .int .i64 (x48), .int .i64 (x49), .int .i64 ((rget_m ((s.take (136 + 12)).drop 136)).1)] 62]) => ?_))
    have hf226 : 0 ≤ (rsum_m s) ∧ (rsum_m s) ≤ 131072 := rsum_rng s
    simp only [nz1, nz2, nz3]
    refine lvw 54 (.bool (decide (¬ (rget_m ((s.take (136 + 12)).drop 136)).1 = (rsum_m s)))) rfl rfl (z_neq ((rget_m ((s.take (136 + 12)).drop 136)).1) (rsum_m s) rfl rfl rfl) ?_
    simp only [nz1, nz2, nz3]
    refine lvw 55 (.bool (decide (¬ (rget_m ((s.take (136 + 12)).drop 136)).1 = (rsum_m s)))) rfl rfl (run_pick rfl rfl rfl) ?_
    simp only [nz1, nz2, nz3]
    refine wpList_nil ?_
    refine then_n (hK222 _ _ ?_)
    refine cond_d (¬ (rget_m ((s.take (136 + 12)).drop 136)).1 = (rsum_m s)) rfl (fun hc227 => ?_) (fun hc227 => ?_)
    rotate_left
    · refine wp_skip ?_
      refine blk_n ?_
      refine then_n (hK79 _ _ ?_)
      refine wp_region_lit ?_
      refine lvw 23 (.int .i64 ((x35 : Nat) : Int)) rfl rfl (run_mv rfl rfl) ?_
      simp only [nz1, nz2, nz3]
      refine lvw 24 (.int .i64 (((x35 + 1) : Nat) : Int)) rfl rfl (r_add x35 1 (show (x35 + 1) < 9223372036854775808 from by omega) rfl rfl rfl) ?_
      simp only [nz1, nz2, nz3]
      refine lvw 7 (.int .i64 (((x35 + 1) : Nat) : Int)) rfl rfl (run_as rfl rfl) ?_
      simp only [nz1, nz2, nz3]
      refine wpList_nil ?_
      refine then_n (hR73 _ _ _ ⟨k52, (x35 + 1), x36, x37, x38, x39, x40, x41, x42, x43, x44, x45, x46, x47, x48, x49, (rget_m ((s.take (136 + 12)).drop 136)).1, (fun qq => bif Nat.blt qq 24 then List.getD [u0 0, .int .i64 ((rget_m ((s.take (136 + 12)).drop 136)).1), .int .i64 ((rget_m ((s.take (136 + 12)).drop 136)).2), .int .i64 ((x35 : Nat) : Int), .bool (decide (x35 < 6)), .int .i64 ((x35 : Nat) : Int), .int .i64 (((x35 + 1) : Nat) : Int), .tuple #[.int .i64 ((rget_m ((s.take (136 + 12)).drop 136)).1), .int .i64 ((rget_m ((s.take (136 + 12)).drop 136)).2)], .string (tx s), .int .i64 ((x35 : Nat) : Int), .pointer (some ⟨g20, 5, none⟩), .int .i64 136, .int .i64 ((x35 : Nat) : Int), .pointer (some ⟨g20, 5, none⟩), .int .i64 136, .int .i64 ((x35 : Nat) : Int), .pointer (some ⟨g26, 5, none⟩), .int .i64 12, .int .i64 (((136 + 12) : Nat) : Int), .string (tx ((s.take (136 + 12)).drop 136)), .tuple #[.int .i64 ((rget_m ((s.take (136 + 12)).drop 136)).1), .int .i64 ((rget_m ((s.take (136 + 12)).drop 136)).2)], .int .i64 ((rget_m ((s.take (136 + 12)).drop 136)).1), .int .i64 ((rget_m ((s.take (136 + 12)).drop 136)).2), .int .i64 ((rget_m ((s.take (136 + 12)).drop 136)).2)] qq undef else List.getD [.bool (decide (¬ (rget_m ((s.take (136 + 12)).drop 136)).2 = 0)), u0 25, u0 26, .int .i64 ((x35 : Nat) : Int), .int .i64 ((rget_m ((s.take (136 + 12)).drop 136)).1), .pointer (some ⟨g32, 5, none⟩), .int .i64 ((x35 : Nat) : Int), .bool true, .bool true, .int .i64 ((rget_m ((s.take (136 + 12)).drop 136)).1), .string (tx s), .int .i64 ((rsum_m s)), .bool (decide (¬ (rget_m ((s.take (136 + 12)).drop 136)).1 = (rsum_m s))), .bool (decide (¬ (rget_m ((s.take (136 + 12)).drop 136)).1 = (rsum_m s))), u0 38] (qq - 24) undef), rfl, (by first | omega | (simp; omega) | (simp at *; omega)), (hi53.trans (show rdecode_m_b0 s (rdecode_m_l0 s k52) x35 x36 x37 x38 x39 x40 x41 x42 x43 x44 x45 x46 x47 x48 x49 x50 = rdecode_m_l0 s k52 ((x35 + 1), x36, x37, x38, x39, x40, x41, x42, x43, x44, x45, x46, x47, x48, x49, (rget_m ((s.take (136 + 12)).drop 136)).1) from by unfold rdecode_m_b0; rw [if_pos hc78, if_neg hx83, if_neg hx108, if_neg hx133, if_neg hx158, if_neg hx183, if_neg hc213, if_pos hs223, if_neg hc227] <;> rfl)), (by first | omega | (simp; done) | (simp; omega) | (simp at *; omega)), rfl, hm225⟩ ?_)
      omega
    refine wp_seq_k (fun K228 hK228 => ?_)
    refine wp_region_lit ?_
    refine lvw 56 (.agg #[.string (tx ([])), .int .i64 0, .int .i64 0, .int .i64 0, .int .i64 0, .int .i64 0, .int .u8 0, .string (tx ([])), .string (tx ([]))]) rfl rfl (by unfold execOp; go_simp; try (first | rfl | (repeat' (first | rfl | apply And.intro)))) ?_
    simp only [nz1, nz2, nz3]
    refine lst rfl (m_store 0 23 _ _ 0 (.agg #[.string (tx ([])), .int .i64 0, .int .i64 0, .int .i64 0, .int .i64 0, .int .i64 0, .int .u8 0, .string (tx ([])), .string (tx ([]))]) (old := #[.string (tx x36), .int .i64 ((x37 : Nat) : Int), .int .i64 ((x38 : Nat) : Int), .int .i64 ((x39 : Nat) : Int), .int .i64 ((x40 : Nat) : Int), .int .i64 ((x41 : Nat) : Int), .int .u8 ((x42.toNat : Nat) : Int), .string (tx x43), .string (tx x44)]) (new := #[.string (tx ([])), .int .i64 0, .int .i64 0, .int .i64 0, .int .i64 0, .int .i64 0, .int .u8 0, .string (tx ([])), .string (tx ([]))]) hm225 rfl rfl rfl rfl rfl (by exact sz_23) (show 0 + 9 ≤ 9 from by decide) (by simp [Value.cells, Value.oneCell']) rfl (fun w229 (hm230 : Mm none (fun _ => True) w w229 [.blk g4 #[.string (tx ([])), .int .i64 0, .int .i64 0, .int .i64 0, .int .i64 0, .int .i64 0, .int .u8 0, .string (tx ([])), .string (tx ([]))] 23, .blk g20 #[.int .i64 148, .int .i64 100, .int .i64 108, .int .i64 116, .int .i64 124, .int .i64 136] 62, .blk g26 #[.int .i64 8, .int .i64 8, .int .i64 8, .int .i64 8, .int .i64 12, .int .i64 12] 62, .blk g32 #[.int .i64 (x45), .int .i64 (x46), .int .i64 (x47), .int .i64 (x48), .int .i64 (x49), .int .i64 ((rget_m ((s.take (136 + 12)).drop 136)).1)] 62]) => ?_))
    refine lvw 3 (.int .i64 2) rfl rfl (run_as rfl rfl) ?_
    simp only [nz1, nz2, nz3]
    refine wpList_nil ?_
    refine then_n (hK228 _ _ ?_)
    refine wp_ret ?_
    refine blk_r ?_
    refine then_r ?_
    refine then_r ?_
    refine blk_r ?_
    refine then_r ?_
    refine then_r ?_
    have he231 : rdecode_m_l0 s ((6 - 0) + 1) (0, ([]), 0, 0, 0, 0, 0, (UInt8.ofNat 0), ([]), ([]), 0, 0, 0, 0, 0, 0) = .inr ((Hdr.mk ([]) 0 0 0 0 0 (UInt8.ofNat 0) ([]) ([])), 2) := (hi53.trans (show rdecode_m_b0 s (rdecode_m_l0 s k52) x35 x36 x37 x38 x39 x40 x41 x42 x43 x44 x45 x46 x47 x48 x49 x50 = .inr ((Hdr.mk ([]) 0 0 0 0 0 (UInt8.ofNat 0) ([]) ([])), 2) from by unfold rdecode_m_b0; rw [if_pos hc78, if_neg hx83, if_neg hx108, if_neg hx133, if_neg hx158, if_neg hx183, if_neg hc213, if_pos hs223, if_pos hc227] <;> rfl))
    have he232 : rdecode_m s = ((Hdr.mk ([]) 0 0 0 0 0 (UInt8.ofNat 0) ([]) ([])), 2) := (show rdecode_m s = ((Hdr.mk ([]) 0 0 0 0 0 (UInt8.ofNat 0) ([]) ([])), 2) from by unfold rdecode_m; rw [if_neg hs7, if_neg hc12, he231] <;> rfl)
    exact ⟨rfl, .tuple #[.agg #[.string (tx ([])), .int .i64 0, .int .i64 0, .int .i64 0, .int .i64 0, .int .i64 0, .int .u8 0, .string (tx ([])), .string (tx ([]))], .int .i64 2], Mem.res_ct rfl rfl (hm230.at 0 rfl) Tryd.underlying23 rfl (by exact sz_23) rfl, ⟨by (rw [he232]; try rfl), hm230.below⟩⟩
  rintro _ w233 ⟨y54, y55, y56, y57, y58, y59, y60, y61, y62, y63, y64, y65, y66, y67, y68, y69, yu0, hx70, hrd, rfl, hm234⟩
  have hq235 : rdecode_m s = rdecode_m_k0 s y54 y55 y56 y57 y58 y59 y60 y61 y62 y63 y64 y65 y66 y67 y68 y69 := (show rdecode_m s = rdecode_m_k0 s y54 y55 y56 y57 y58 y59 y60 y61 y62 y63 y64 y65 y66 y67 y68 y69 from by unfold rdecode_m; rw [if_neg hs7, if_neg hc12, hx70] <;> rfl)
  refine then_n (hK33 _ _ ?_)
  refine wp_seq_k (fun K236 hK236 => ?_)
  have hm237 := hm234.drew
  refine wp_region_held_drew (S := fun w' => Mem.Blk w' g32 (#[.int .i64 (y64), .int .i64 (y65), .int .i64 (y66), .int .i64 (y67), .int .i64 (y68), .int .i64 (y69)]) 62) (by kernel_rfl) (hm237.at 3 rfl) (fun _ => ?_)
  generalize w233.drew = w238 at *
  refine tk 0 57 (.string (tx s)) rfl rfl (fun _ hw => run_mv rfl rfl) (hm237.at 3 rfl) ?_
  simp only [nz1, nz2, nz3]
  refine tk 1 58 (.string (tx (s.take 100))) rfl rfl (fun _ hw => t_to s 100 (by omega) Tryd.underlying9 rfl rfl rfl) (hm237.at 3 rfl) ?_
  simp only [nz1, nz2, nz3]
  refine tk 3 60 (.pointer (some ⟨g32, 1, none⟩)) rfl rfl (fun _ hw => Sx.r_ix g32 1 (by decide) Tryd.underlying62 sz_3 rfl rfl rfl) (hm237.at 3 rfl) ?_
  simp only [nz1, nz2, nz3]
  refine tk 4 61 (.int .i64 (y65)) rfl rfl (fun _ hw => r_load hw rfl Tryd.underlying3 rfl rfl rfl) (hm237.at 3 rfl) ?_
  simp only [nz1, nz2, nz3]
  refine tk 5 62 (.pointer (some ⟨g32, 2, none⟩)) rfl rfl (fun _ hw => Sx.r_ix g32 2 (by decide) Tryd.underlying62 sz_3 rfl rfl rfl) (hm237.at 3 rfl) ?_
  simp only [nz1, nz2, nz3]
  refine tk 6 63 (.int .i64 (y66)) rfl rfl (fun _ hw => r_load hw rfl Tryd.underlying3 rfl rfl rfl) (hm237.at 3 rfl) ?_
  simp only [nz1, nz2, nz3]
  refine tk 7 64 (.pointer (some ⟨g32, 3, none⟩)) rfl rfl (fun _ hw => Sx.r_ix g32 3 (by decide) Tryd.underlying62 sz_3 rfl rfl rfl) (hm237.at 3 rfl) ?_
  simp only [nz1, nz2, nz3]
  refine tk 8 65 (.int .i64 (y67)) rfl rfl (fun _ hw => r_load hw rfl Tryd.underlying3 rfl rfl rfl) (hm237.at 3 rfl) ?_
  simp only [nz1, nz2, nz3]
  refine tk 9 66 (.pointer (some ⟨g32, 4, none⟩)) rfl rfl (fun _ hw => Sx.r_ix g32 4 (by decide) Tryd.underlying62 sz_3 rfl rfl rfl) (hm237.at 3 rfl) ?_
  simp only [nz1, nz2, nz3]
  refine tk 10 67 (.int .i64 (y68)) rfl rfl (fun _ hw => r_load hw rfl Tryd.underlying3 rfl rfl rfl) (hm237.at 3 rfl) ?_
  simp only [nz1, nz2, nz3]
  refine tk 11 68 (.pointer (some ⟨g32, 5, none⟩)) rfl rfl (fun _ hw => Sx.r_ix g32 5 (by decide) Tryd.underlying62 sz_3 rfl rfl rfl) (hm237.at 3 rfl) ?_
  simp only [nz1, nz2, nz3]
  refine tk 12 69 (.int .i64 (y69)) rfl rfl (fun _ hw => r_load hw rfl Tryd.underlying3 rfl rfl rfl) (hm237.at 3 rfl) ?_
  simp only [nz1, nz2, nz3]
  refine tk 13 70 (.string (tx s)) rfl rfl (fun _ hw => run_mv rfl rfl) (hm237.at 3 rfl) ?_
  simp only [nz1, nz2, nz3]
  refine tk 14 71 (.int .u8 ((by' s 156 : Nat) : Int)) rfl rfl (fun _ hw => t_char s 156 (by omega) Tryd.underlying9 rfl rfl rfl) (hm237.at 3 rfl) ?_
  simp only [nz1, nz2, nz3]
  refine tk 15 72 (.string (tx s)) rfl rfl (fun _ hw => run_mv rfl rfl) (hm237.at 3 rfl) ?_
  simp only [nz1, nz2, nz3]
  refine tk 16 73 (.string (tx ((s.take 257).drop 157))) rfl rfl (fun _ hw => t_cut s 157 257 (by omega) (by omega) Tryd.underlying9 rfl rfl rfl rfl) (hm237.at 3 rfl) ?_
  simp only [nz1, nz2, nz3]
  refine tk 18 75 (.string (tx s)) rfl rfl (fun _ hw => run_mv rfl rfl) (hm237.at 3 rfl) ?_
  simp only [nz1, nz2, nz3]
  refine tk 19 76 (.string (tx ((s.take 500).drop 345))) rfl rfl (fun _ hw => t_cut s 345 500 (by omega) (by omega) Tryd.underlying9 rfl rfl rfl rfl) (hm237.at 3 rfl) ?_
  simp only [nz1, nz2, nz3]
  refine one_ready 2 (by kernel_rfl) ?_
  refine opd rfl (wanted_none rfl) (m_call hm237 59 (.string (tx (rtext_m (s.take 100)))) rfl (run_rtext rfl rfl) (rtext_any (s.take 100)  _  (by first | omega | assumption | (rw [List.length_drop]; omega) | (rw [List.length_take]; omega) | (rw [List.length_drop, List.length_take]; omega) | (simp; done) | (simp; omega) | (simp only [List.length_append, List.length_cons, List.length_nil]; omega) | (simp only [List.length_append, List.length_cons, List.length_nil] at *; omega) | decide)) (fun w239 (hm240 : Mm none (fun _ => True) w w239 [.blk g4 #[.string (tx y55), .int .i64 ((y56 : Nat) : Int), .int .i64 ((y57 : Nat) : Int), .int .i64 ((y58 : Nat) : Int), .int .i64 ((y59 : Nat) : Int), .int .i64 ((y60 : Nat) : Int), .int .u8 ((y61.toNat : Nat) : Int), .string (tx y62), .string (tx y63)] 23, .blk g20 #[.int .i64 148, .int .i64 100, .int .i64 108, .int .i64 116, .int .i64 124, .int .i64 136] 62, .blk g26 #[.int .i64 8, .int .i64 8, .int .i64 8, .int .i64 8, .int .i64 12, .int .i64 12] 62, .blk g32 #[.int .i64 (y64), .int .i64 (y65), .int .i64 (y66), .int .i64 (y67), .int .i64 (y68), .int .i64 (y69)] 62]) => ?_))
  refine ⟨hm240.at 3 rfl, ?_⟩
  simp only [nz1, nz2, nz3]
  refine one_ready 17 (by kernel_rfl) ?_
  refine opd rfl (wanted_none rfl) (m_call hm240 74 (.string (tx (rtext_m ((s.take 257).drop 157)))) rfl (run_rtext rfl rfl) (rtext_any ((s.take 257).drop 157)  _  (by first | omega | assumption | (rw [List.length_drop]; omega) | (rw [List.length_take]; omega) | (rw [List.length_drop, List.length_take]; omega) | (simp; done) | (simp; omega) | (simp only [List.length_append, List.length_cons, List.length_nil]; omega) | (simp only [List.length_append, List.length_cons, List.length_nil] at *; omega) | decide)) (fun w241 (hm242 : Mm none (fun _ => True) w w241 [.blk g4 #[.string (tx y55), .int .i64 ((y56 : Nat) : Int), .int .i64 ((y57 : Nat) : Int), .int .i64 ((y58 : Nat) : Int), .int .i64 ((y59 : Nat) : Int), .int .i64 ((y60 : Nat) : Int), .int .u8 ((y61.toNat : Nat) : Int), .string (tx y62), .string (tx y63)] 23, .blk g20 #[.int .i64 148, .int .i64 100, .int .i64 108, .int .i64 116, .int .i64 124, .int .i64 136] 62, .blk g26 #[.int .i64 8, .int .i64 8, .int .i64 8, .int .i64 8, .int .i64 12, .int .i64 12] 62, .blk g32 #[.int .i64 (y64), .int .i64 (y65), .int .i64 (y66), .int .i64 (y67), .int .i64 (y68), .int .i64 (y69)] 62]) => ?_))
  refine ⟨hm242.at 3 rfl, ?_⟩
  simp only [nz1, nz2, nz3]
  refine one_ready 20 (by kernel_rfl) ?_
  refine opd rfl (wanted_none rfl) (m_call hm242 77 (.string (tx (rtext_m ((s.take 500).drop 345)))) rfl (run_rtext rfl rfl) (rtext_any ((s.take 500).drop 345)  _  (by first | omega | assumption | (rw [List.length_drop]; omega) | (rw [List.length_take]; omega) | (rw [List.length_drop, List.length_take]; omega) | (simp; done) | (simp; omega) | (simp only [List.length_append, List.length_cons, List.length_nil]; omega) | (simp only [List.length_append, List.length_cons, List.length_nil] at *; omega) | decide)) (fun w243 (hm244 : Mm none (fun _ => True) w w243 [.blk g4 #[.string (tx y55), .int .i64 ((y56 : Nat) : Int), .int .i64 ((y57 : Nat) : Int), .int .i64 ((y58 : Nat) : Int), .int .i64 ((y59 : Nat) : Int), .int .i64 ((y60 : Nat) : Int), .int .u8 ((y61.toNat : Nat) : Int), .string (tx y62), .string (tx y63)] 23, .blk g20 #[.int .i64 148, .int .i64 100, .int .i64 108, .int .i64 116, .int .i64 124, .int .i64 136] 62, .blk g26 #[.int .i64 8, .int .i64 8, .int .i64 8, .int .i64 8, .int .i64 12, .int .i64 12] 62, .blk g32 #[.int .i64 (y64), .int .i64 (y65), .int .i64 (y66), .int .i64 (y67), .int .i64 (y68), .int .i64 (y69)] 62]) => ?_))
  refine ⟨hm244.at 3 rfl, ?_⟩
  simp only [nz1, nz2, nz3]
  refine tk 21 78 (.agg #[.string (tx (rtext_m (s.take 100))), .int .i64 (y65), .int .i64 (y66), .int .i64 (y67), .int .i64 (y68), .int .i64 (y69), .int .u8 ((by' s 156 : Nat) : Int), .string (tx (rtext_m ((s.take 257).drop 157))), .string (tx (rtext_m ((s.take 500).drop 345)))]) rfl rfl (fun _ hw => by unfold execOp; go_simp; try (first | rfl | (repeat' (first | rfl | apply And.intro)))) (hm244.at 3 rfl) ?_
  simp only [nz1, nz2, nz3]
  refine one_ready 22 (by kernel_rfl) ?_
  refine opd rfl (wanted_none rfl) (m_store 0 23 _ _ 0 (.agg #[.string (tx (rtext_m (s.take 100))), .int .i64 (y65), .int .i64 (y66), .int .i64 (y67), .int .i64 (y68), .int .i64 (y69), .int .u8 ((by' s 156 : Nat) : Int), .string (tx (rtext_m ((s.take 257).drop 157))), .string (tx (rtext_m ((s.take 500).drop 345)))]) (old := #[.string (tx y55), .int .i64 ((y56 : Nat) : Int), .int .i64 ((y57 : Nat) : Int), .int .i64 ((y58 : Nat) : Int), .int .i64 ((y59 : Nat) : Int), .int .i64 ((y60 : Nat) : Int), .int .u8 ((y61.toNat : Nat) : Int), .string (tx y62), .string (tx y63)]) (new := #[.string (tx (rtext_m (s.take 100))), .int .i64 (y65), .int .i64 (y66), .int .i64 (y67), .int .i64 (y68), .int .i64 (y69), .int .u8 ((by' s 156 : Nat) : Int), .string (tx (rtext_m ((s.take 257).drop 157))), .string (tx (rtext_m ((s.take 500).drop 345)))]) hm244 rfl rfl rfl rfl rfl (by exact sz_23) (show 0 + 9 ≤ 9 from by decide) (by simp [Value.cells, Value.oneCell']) rfl (fun w245 (hm246 : Mm none (fun _ => True) w w245 [.blk g4 #[.string (tx (rtext_m (s.take 100))), .int .i64 (y65), .int .i64 (y66), .int .i64 (y67), .int .i64 (y68), .int .i64 (y69), .int .u8 ((by' s 156 : Nat) : Int), .string (tx (rtext_m ((s.take 257).drop 157))), .string (tx (rtext_m ((s.take 500).drop 345)))] 23, .blk g20 #[.int .i64 148, .int .i64 100, .int .i64 108, .int .i64 116, .int .i64 124, .int .i64 136] 62, .blk g26 #[.int .i64 8, .int .i64 8, .int .i64 8, .int .i64 8, .int .i64 12, .int .i64 12] 62, .blk g32 #[.int .i64 (y64), .int .i64 (y65), .int .i64 (y66), .int .i64 (y67), .int .i64 (y68), .int .i64 (y69)] 62]) => ?_))
  refine ⟨hm246.at 3 rfl, ?_⟩
  refine one_ready 23 (by kernel_rfl) ?_
  refine opd rfl (wanted_none rfl) (w_value 3 (.int .i64 0) rfl (run_as rfl rfl) ⟨hm246.at 3 rfl, ?_⟩)
  simp only [nz1, nz2, nz3]
  refine wpAnyH_done (by kernel_rfl) ?_ _
  refine then_n (hK236 _ _ ?_)
  refine wp_ret ?_
  have he247 : rdecode_m s = ((Hdr.mk (rtext_m (s.take 100)) y65 y66 y67 y68 y69 (s.getD 156 0) (rtext_m ((s.take 257).drop 157)) (rtext_m ((s.take 500).drop 345))), 0) := (hq235.trans (show rdecode_m_k0 s y54 y55 y56 y57 y58 y59 y60 y61 y62 y63 y64 y65 y66 y67 y68 y69 = ((Hdr.mk (rtext_m (s.take 100)) y65 y66 y67 y68 y69 (s.getD 156 0) (rtext_m ((s.take 257).drop 157)) (rtext_m ((s.take 500).drop 345))), 0) from by unfold rdecode_m_k0; rfl))
  exact ⟨rfl, .tuple #[.agg #[.string (tx (rtext_m (s.take 100))), .int .i64 (y65), .int .i64 (y66), .int .i64 (y67), .int .i64 (y68), .int .i64 (y69), .int .u8 ((by' s 156 : Nat) : Int), .string (tx (rtext_m ((s.take 257).drop 157))), .string (tx (rtext_m ((s.take 500).drop 345)))], .int .i64 0], Mem.res_ct rfl rfl (hm246.at 0 rfl) Tryd.underlying23 rfl (by exact sz_23) rfl, ⟨by (rw [he247]; try rfl), hm246.below⟩⟩
theorem run_rdecode {o : Oper} {a : Act} {w : World} {x0 : Operand} {v0 : Value} (ho : o.op = .call { callee := .value (.func 18), args := #[x0], argTypes := #[9] }) (h0 : a.eval x0 = v0) :
    (execOp a.eval o).run Tryd.prog w = .ok (.enter 18 #[v0]) w := by
  unfold execOp
  simp only [ho]
  have hf : a.eval (.func 18) = .func (.func 18) #[] #[] := rfl
  generalize a.eval = f at *
  go_simp
end Go.Proofs.YtglnifckngcpkaaDoor.Hd
