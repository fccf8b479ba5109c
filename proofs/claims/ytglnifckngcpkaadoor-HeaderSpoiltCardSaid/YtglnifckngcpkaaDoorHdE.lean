/- Layer 9: a header read. -/
import Derived.Test.YtglnifckngcpkaaDoorHdO
namespace Go.Proofs.YtglnifckngcpkaaDoor.Hd
open Go.RowKit
open Go.Proofs.YtglnifckngcpkaaDoor.Sym Go.Proofs.YtglnifckngcpkaaDoor.Mem
open Go.Proofs.YtglnifckngcpkaaDoor.Sx hiding Mm m_alloc m_store m_put m_call m_callx m_make m_append r_string r_ixS
set_option linter.unusedVariables false
attribute [local irreducible] octal_m put_m get_m hsum_m fits_m fill_m rep_m ib_m hcut_m cut_m
attribute [local irreducible] wpList Oper.wp

def hdecode_m_b0 (s : List UInt8) (rec : Nat × Nat × (List UInt8) × Nat × Nat × Nat × Nat × Nat × UInt8 × (List UInt8) × (List UInt8) × Int × Int × Int × Int × Int → Sum (Nat × Nat × (List UInt8) × Nat × Nat × Nat × Nat × Nat × UInt8 × (List UInt8) × (List UInt8) × Int × Int × Int × Int × Int) (Hdr × Int)) (x44 : Nat) (x45 : Nat) (x46 : List UInt8) (x47 : Nat) (x48 : Nat) (x49 : Nat) (x50 : Nat) (x51 : Nat) (x52 : UInt8) (x53 : List UInt8) (x54 : List UInt8) (x55 : Int) (x56 : Int) (x57 : Int) (x58 : Int) (x59 : Int) : Sum (Nat × Nat × (List UInt8) × Nat × Nat × Nat × Nat × Nat × UInt8 × (List UInt8) × (List UInt8) × Int × Int × Int × Int × Int) (Hdr × Int) :=
  if x45 < 5 then
    if x45 = 0 then
      if ¬ (get_m ((s.take (x44 + 8)).drop x44)).2 = 0 then
        .inr ((Hdr.mk ([]) 0 0 0 0 0 (UInt8.ofNat 0) ([]) ([])), (get_m ((s.take (x44 + 8)).drop x44)).2)
      else
        rec ((x44 + 8), (x45 + 1), x46, x47, x48, x49, x50, x51, x52, x53, x54, (get_m ((s.take (x44 + 8)).drop x44)).1, x56, x57, x58, x59)
    else
      if x45 = 1 then
        if ¬ (get_m ((s.take (x44 + 8)).drop x44)).2 = 0 then
          .inr ((Hdr.mk ([]) 0 0 0 0 0 (UInt8.ofNat 0) ([]) ([])), (get_m ((s.take (x44 + 8)).drop x44)).2)
        else
          rec ((x44 + 8), (x45 + 1), x46, x47, x48, x49, x50, x51, x52, x53, x54, x55, (get_m ((s.take (x44 + 8)).drop x44)).1, x57, x58, x59)
      else
        if x45 = 2 then
          if ¬ (get_m ((s.take (x44 + 8)).drop x44)).2 = 0 then
            .inr ((Hdr.mk ([]) 0 0 0 0 0 (UInt8.ofNat 0) ([]) ([])), (get_m ((s.take (x44 + 8)).drop x44)).2)
          else
            rec ((x44 + 8), (x45 + 1), x46, x47, x48, x49, x50, x51, x52, x53, x54, x55, x56, (get_m ((s.take (x44 + 8)).drop x44)).1, x58, x59)
        else
          if x45 = 3 then
            if ¬ (get_m ((s.take (x44 + 12)).drop x44)).2 = 0 then
              .inr ((Hdr.mk ([]) 0 0 0 0 0 (UInt8.ofNat 0) ([]) ([])), (get_m ((s.take (x44 + 12)).drop x44)).2)
            else
              rec ((x44 + 12), (x45 + 1), x46, x47, x48, x49, x50, x51, x52, x53, x54, x55, x56, x57, (get_m ((s.take (x44 + 12)).drop x44)).1, x59)
          else
            if ¬ (get_m ((s.take (x44 + 12)).drop x44)).2 = 0 then
              .inr ((Hdr.mk ([]) 0 0 0 0 0 (UInt8.ofNat 0) ([]) ([])), (get_m ((s.take (x44 + 12)).drop x44)).2)
            else
              rec ((x44 + 12), (x45 + 1), x46, x47, x48, x49, x50, x51, x52, x53, x54, x55, x56, x57, x58, (get_m ((s.take (x44 + 12)).drop x44)).1)
  else
    .inl (x44, x45, x46, x47, x48, x49, x50, x51, x52, x53, x54, x55, x56, x57, x58, x59)
def hdecode_m_l0 (s : List UInt8) : Nat → Nat × Nat × (List UInt8) × Nat × Nat × Nat × Nat × Nat × UInt8 × (List UInt8) × (List UInt8) × Int × Int × Int × Int × Int → Sum (Nat × Nat × (List UInt8) × Nat × Nat × Nat × Nat × Nat × UInt8 × (List UInt8) × (List UInt8) × Int × Int × Int × Int × Int) (Hdr × Int)
  | 0, zz => .inl zz
  | nq + 1, zz => hdecode_m_b0 s (hdecode_m_l0 s nq) zz.1 zz.2.1 zz.2.2.1 zz.2.2.2.1 zz.2.2.2.2.1 zz.2.2.2.2.2.1 zz.2.2.2.2.2.2.1 zz.2.2.2.2.2.2.2.1 zz.2.2.2.2.2.2.2.2.1 zz.2.2.2.2.2.2.2.2.2.1 zz.2.2.2.2.2.2.2.2.2.2.1 zz.2.2.2.2.2.2.2.2.2.2.2.1 zz.2.2.2.2.2.2.2.2.2.2.2.2.1 zz.2.2.2.2.2.2.2.2.2.2.2.2.2.1 zz.2.2.2.2.2.2.2.2.2.2.2.2.2.2.1 zz.2.2.2.2.2.2.2.2.2.2.2.2.2.2.2

def hdecode_m_k0 (s : List UInt8) (y63 : Nat) (y64 : Nat) (y65 : List UInt8) (y66 : Nat) (y67 : Nat) (y68 : Nat) (y69 : Nat) (y70 : Nat) (y71 : UInt8) (y72 : List UInt8) (y73 : List UInt8) (y74 : Int) (y75 : Int) (y76 : Int) (y77 : Int) (y78 : Int) : Hdr × Int :=
  ((Hdr.mk (hcut_m (s.take 100)) y74 y75 y76 y77 y78 (s.getD 156 0) (hcut_m ((s.take 257).drop 157)) (hcut_m ((s.take 500).drop 345))), 0)

def hdecode_m (s : List UInt8) : Hdr × Int :=
  if ¬ s.length = 512 then
    ((Hdr.mk ([]) 0 0 0 0 0 (UInt8.ofNat 0) ([]) ([])), 2)
  else
    if ¬ ((s.take 265).drop 257) = [117, 115, 116, 97, 114, 0, 48, 48] then
      ((Hdr.mk ([]) 0 0 0 0 0 (UInt8.ofNat 0) ([]) ([])), 2)
    else
      if ¬ (get_m ((s.take 156).drop 148)).2 = 0 then
        ((Hdr.mk ([]) 0 0 0 0 0 (UInt8.ofNat 0) ([]) ([])), (get_m ((s.take 156).drop 148)).2)
      else
        if ¬ (get_m ((s.take 156).drop 148)).1 = (hsum_m s) then
          ((Hdr.mk ([]) 0 0 0 0 0 (UInt8.ofNat 0) ([]) ([])), 2)
        else
          fin (hdecode_m_l0 s ((5 - 0) + 1) (100, 0, ([]), 0, 0, 0, 0, 0, (UInt8.ofNat 0), ([]), ([]), 0, 0, 0, 0, 0)) (fun r => r) (fun zz => hdecode_m_k0 s zz.1 zz.2.1 zz.2.2.1 zz.2.2.2.1 zz.2.2.2.2.1 zz.2.2.2.2.2.1 zz.2.2.2.2.2.2.1 zz.2.2.2.2.2.2.2.1 zz.2.2.2.2.2.2.2.2.1 zz.2.2.2.2.2.2.2.2.2.1 zz.2.2.2.2.2.2.2.2.2.2.1 zz.2.2.2.2.2.2.2.2.2.2.2.1 zz.2.2.2.2.2.2.2.2.2.2.2.2.1 zz.2.2.2.2.2.2.2.2.2.2.2.2.2.1 zz.2.2.2.2.2.2.2.2.2.2.2.2.2.2.1 zz.2.2.2.2.2.2.2.2.2.2.2.2.2.2.2)

set_option maxHeartbeats 4000000 in
set_option maxRecDepth 100000 in
theorem hdecode_any (s : List UInt8) (w : World)  (hT : Laid w)  : Calls Tryd.prog 16 #[.string (tx s)] w (fun e w' => e = .returned (.tuple #[.agg #[.string (tx (((hdecode_m s).1).name)), .int .i64 (((hdecode_m s).1).mode), .int .i64 (((hdecode_m s).1).uid), .int .i64 (((hdecode_m s).1).gid), .int .i64 (((hdecode_m s).1).size), .int .i64 (((hdecode_m s).1).time), .int .u8 (((((hdecode_m s).1).flag).toNat : Nat) : Int), .string (tx (((hdecode_m s).1).link)), .string (tx (((hdecode_m s).1).pfx))], .int .i64 ((hdecode_m s).2)]) ∧ Below w.heap.size w w') := by
  go_enter Tryd.func16, Tryd.ntmps16
  have hm00 := Mm.nil none (fun _ => True) w
  have hm0 := hm00
  refine wp_seq_k (fun K1 hK1 => ?_)
  refine wp_region_lit ?_
  refine lst rfl (m_alloc (c := #[.string (tx ([])), .int .i64 0, .int .i64 0, .int .i64 0, .int .i64 0, .int .i64 0, .int .u8 0, .string (tx ([])), .string (tx ([]))]) (T := 23) hm0 2 rfl (by unfold execOp; go_simp; try rfl) (fun g4 w2 (hm3 : Mm none (fun _ => True) w w2 [.blk g4 #[.string (tx ([])), .int .i64 0, .int .i64 0, .int .i64 0, .int .i64 0, .int .i64 0, .int .u8 0, .string (tx ([])), .string (tx ([]))] 23]) => ?_))
  simp only [nz1, nz2, nz3]
  refine lvw 3 (.int .i64 0) rfl rfl (run_as rfl rfl) ?_
  simp only [nz1, nz2, nz3]
  refine wpList_nil ?_
  refine then_n (hK1 _ _ ?_)
  refine wp_seq_k (fun K5 hK5 => ?_)
  refine wp_seq_k (fun K6 hK6 => ?_)
  refine wp_region_lit ?_
  refine lvw 9 (.string (tx s)) rfl rfl (run_mv rfl rfl) ?_
  simp only [nz1, nz2, nz3]
  refine lvw 10 (.int .i64 ((s.length : Nat) : Int)) rfl rfl (t_len rfl Tryd.underlying9 rfl) ?_
  simp only [nz1, nz2, nz3]
  refine lvb 11 (¬ s.length = 512) rfl rfl (r_neq s.length 512 rfl rfl rfl) (fun hs7 => ?_) (fun hs7 => ?_)
  · simp only [nz1, nz2, nz3]
    refine lvw 12 (.bool true) rfl rfl (run_mv rfl rfl) ?_
    simp only [nz1, nz2, nz3]
    refine lst_skip 13 rfl rfl ?_
    simp only [nz1, nz2, nz3]
    refine lst_skip 14 rfl rfl ?_
    simp only [nz1, nz2, nz3]
    refine lst_skip 15 rfl rfl ?_
    simp only [nz1, nz2, nz3]
    refine lvw 16 (.bool true) rfl rfl (run_pick rfl rfl rfl) ?_
    simp only [nz1, nz2, nz3]
    refine wpList_nil ?_
    refine then_n (hK6 _ _ ?_)
    refine cond_t rfl ?_
    refine wp_seq_k (fun K8 hK8 => ?_)
    refine wp_region_lit ?_
    refine lvw 17 (.agg #[.string (tx ([])), .int .i64 0, .int .i64 0, .int .i64 0, .int .i64 0, .int .i64 0, .int .u8 0, .string (tx ([])), .string (tx ([]))]) rfl rfl (by unfold execOp; go_simp; try (first | rfl | (repeat' (first | rfl | apply And.intro)))) ?_
    simp only [nz1, nz2, nz3]
    refine lst rfl (m_store 0 23 _ _ 0 (.agg #[.string (tx ([])), .int .i64 0, .int .i64 0, .int .i64 0, .int .i64 0, .int .i64 0, .int .u8 0, .string (tx ([])), .string (tx ([]))]) (old := #[.string (tx ([])), .int .i64 0, .int .i64 0, .int .i64 0, .int .i64 0, .int .i64 0, .int .u8 0, .string (tx ([])), .string (tx ([]))]) (new := #[.string (tx ([])), .int .i64 0, .int .i64 0, .int .i64 0, .int .i64 0, .int .i64 0, .int .u8 0, .string (tx ([])), .string (tx ([]))]) hm3 rfl rfl rfl rfl rfl (by exact sz_23) (show 0 + 9 ≤ 9 from by decide) (by simp [Value.cells, Value.oneCell']) rfl (fun w9 (hm10 : Mm none (fun _ => True) w w9 [.blk g4 #[.string (tx ([])), .int .i64 0, .int .i64 0, .int .i64 0, .int .i64 0, .int .i64 0, .int .u8 0, .string (tx ([])), .string (tx ([]))] 23]) => ?_))
    refine lvw 3 (.int .i64 2) rfl rfl (run_as rfl rfl) ?_
    simp only [nz1, nz2, nz3]
    refine wpList_nil ?_
    refine then_n (hK8 _ _ ?_)
    refine wp_ret ?_
    refine then_r ?_
    have he11 : hdecode_m s = ((Hdr.mk ([]) 0 0 0 0 0 (UInt8.ofNat 0) ([]) ([])), 2) := (show hdecode_m s = ((Hdr.mk ([]) 0 0 0 0 0 (UInt8.ofNat 0) ([]) ([])), 2) from by unfold hdecode_m; rw [if_pos hs7] <;> rfl)
    exact ⟨rfl, .tuple #[.agg #[.string (tx ([])), .int .i64 0, .int .i64 0, .int .i64 0, .int .i64 0, .int .i64 0, .int .u8 0, .string (tx ([])), .string (tx ([]))], .int .i64 2], Mem.res_ct rfl rfl (hm10.at 0 rfl) Tryd.underlying23 rfl (by exact sz_23) rfl, ⟨by (rw [he11]; try rfl), hm10.below⟩⟩
  simp only [nz1, nz2, nz3]
  refine lvw 12 (.bool false) rfl rfl (run_mv rfl rfl) ?_
  simp only [nz1, nz2, nz3]
  refine lvw 13 (.string (tx s)) rfl rfl (run_mv rfl rfl) ?_
  simp only [nz1, nz2, nz3]
  refine lvw 14 (.string (tx ((s.take 265).drop 257))) rfl rfl (t_cut s 257 265 (by omega) (by omega) Tryd.underlying9 rfl rfl rfl rfl) ?_
  simp only [nz1, nz2, nz3]
  refine lvw 15 (.bool (decide (¬ ((s.take 265).drop 257) = [117, 115, 116, 97, 114, 0, 48, 48]))) rfl rfl (t_neq ((s.take 265).drop 257) ([117, 115, 116, 97, 114, 0, 48, 48]) rfl rfl rfl) ?_
  simp only [nz1, nz2, nz3]
  refine lvw 16 (.bool (decide (¬ ((s.take 265).drop 257) = [117, 115, 116, 97, 114, 0, 48, 48]))) rfl rfl (run_pickf rfl rfl rfl) ?_
  simp only [nz1, nz2, nz3]
  refine wpList_nil ?_
  refine then_n (hK6 _ _ ?_)
  refine cond_d (¬ ((s.take 265).drop 257) = [117, 115, 116, 97, 114, 0, 48, 48]) rfl (fun hc12 => ?_) (fun hc12 => ?_)
  · refine wp_seq_k (fun K13 hK13 => ?_)
    refine wp_region_lit ?_
    refine lvw 17 (.agg #[.string (tx ([])), .int .i64 0, .int .i64 0, .int .i64 0, .int .i64 0, .int .i64 0, .int .u8 0, .string (tx ([])), .string (tx ([]))]) rfl rfl (by unfold execOp; go_simp; try (first | rfl | (repeat' (first | rfl | apply And.intro)))) ?_
    simp only [nz1, nz2, nz3]
    refine lst rfl (m_store 0 23 _ _ 0 (.agg #[.string (tx ([])), .int .i64 0, .int .i64 0, .int .i64 0, .int .i64 0, .int .i64 0, .int .u8 0, .string (tx ([])), .string (tx ([]))]) (old := #[.string (tx ([])), .int .i64 0, .int .i64 0, .int .i64 0, .int .i64 0, .int .i64 0, .int .u8 0, .string (tx ([])), .string (tx ([]))]) (new := #[.string (tx ([])), .int .i64 0, .int .i64 0, .int .i64 0, .int .i64 0, .int .i64 0, .int .u8 0, .string (tx ([])), .string (tx ([]))]) hm3 rfl rfl rfl rfl rfl (by exact sz_23) (show 0 + 9 ≤ 9 from by decide) (by simp [Value.cells, Value.oneCell']) rfl (fun w14 (hm15 : Mm none (fun _ => True) w w14 [.blk g4 #[.string (tx ([])), .int .i64 0, .int .i64 0, .int .i64 0, .int .i64 0, .int .i64 0, .int .u8 0, .string (tx ([])), .string (tx ([]))] 23]) => ?_))
    refine lvw 3 (.int .i64 2) rfl rfl (run_as rfl rfl) ?_
    simp only [nz1, nz2, nz3]
    refine wpList_nil ?_
    refine then_n (hK13 _ _ ?_)
    refine wp_ret ?_
    refine then_r ?_
    have he16 : hdecode_m s = ((Hdr.mk ([]) 0 0 0 0 0 (UInt8.ofNat 0) ([]) ([])), 2) := (show hdecode_m s = ((Hdr.mk ([]) 0 0 0 0 0 (UInt8.ofNat 0) ([]) ([])), 2) from by unfold hdecode_m; rw [if_neg hs7, if_pos hc12] <;> rfl)
    exact ⟨rfl, .tuple #[.agg #[.string (tx ([])), .int .i64 0, .int .i64 0, .int .i64 0, .int .i64 0, .int .i64 0, .int .u8 0, .string (tx ([])), .string (tx ([]))], .int .i64 2], Mem.res_ct rfl rfl (hm15.at 0 rfl) Tryd.underlying23 rfl (by exact sz_23) rfl, ⟨by (rw [he16]; try rfl), hm15.below⟩⟩
  refine wp_skip ?_
  refine then_n (hK5 _ _ ?_)
  refine wp_seq_k (fun K17 hK17 => ?_)
  refine wp_region_lit ?_
  refine lvw 19 (.string (tx s)) rfl rfl (run_mv rfl rfl) ?_
  simp only [nz1, nz2, nz3]
  refine lvw 20 (.string (tx ((s.take 156).drop 148))) rfl rfl (t_cut s 148 156 (by omega) (by omega) Tryd.underlying9 rfl rfl rfl rfl) ?_
  simp only [nz1, nz2, nz3]
  refine lst rfl (m_call hm3 21 (.tuple #[.int .i64 ((get_m ((s.take 156).drop 148)).1), .int .i64 ((get_m ((s.take 156).drop 148)).2)]) rfl (run_get rfl rfl) (get_any ((s.take 156).drop 148)  _  (by first | omega | assumption | (rw [List.length_drop]; omega) | (rw [List.length_take]; omega) | (rw [List.length_drop, List.length_take]; omega) | (simp; done) | (simp; omega) | (simp only [List.length_append, List.length_cons, List.length_nil]; omega) | (simp only [List.length_append, List.length_cons, List.length_nil] at *; omega) | decide)) (fun w18 (hm19 : Mm none (fun _ => True) w w18 [.blk g4 #[.string (tx ([])), .int .i64 0, .int .i64 0, .int .i64 0, .int .i64 0, .int .i64 0, .int .u8 0, .string (tx ([])), .string (tx ([]))] 23]) => ?_))
  simp only [nz1, nz2, nz3]
  refine lvw 18 (.tuple #[.int .i64 ((get_m ((s.take 156).drop 148)).1), .int .i64 ((get_m ((s.take 156).drop 148)).2)]) rfl rfl (run_mv rfl rfl) ?_
  simp only [nz1, nz2, nz3]
  refine lvw 22 (.int .i64 ((get_m ((s.take 156).drop 148)).1)) rfl rfl (run_ex rfl rfl rfl) ?_
  simp only [nz1, nz2, nz3]
  refine lvw 23 (.int .i64 ((get_m ((s.take 156).drop 148)).2)) rfl rfl (run_ex rfl rfl rfl) ?_
  simp only [nz1, nz2, nz3]
  refine lvw 4 (.int .i64 ((get_m ((s.take 156).drop 148)).1)) rfl rfl (run_as rfl rfl) ?_
  simp only [nz1, nz2, nz3]
  refine lvw 5 (.int .i64 ((get_m ((s.take 156).drop 148)).2)) rfl rfl (run_as rfl rfl) ?_
  simp only [nz1, nz2, nz3]
  refine wpList_nil ?_
  refine then_n (hK17 _ _ ?_)
  refine wp_seq_k (fun K20 hK20 => ?_)
  refine wp_seq_k (fun K21 hK21 => ?_)
  refine wp_region_lit ?_
  refine lvw 24 (.int .i64 ((get_m ((s.take 156).drop 148)).2)) rfl rfl (run_mv rfl rfl) ?_
  simp only [nz1, nz2, nz3]
  refine lvw 25 (.bool (decide (¬ (get_m ((s.take 156).drop 148)).2 = 0))) rfl rfl (z_neq ((get_m ((s.take 156).drop 148)).2) 0 rfl rfl rfl) ?_
  simp only [nz1, nz2, nz3]
  refine wpList_nil ?_
  refine then_n (hK21 _ _ ?_)
  refine cond_d (¬ (get_m ((s.take 156).drop 148)).2 = 0) rfl (fun hc22 => ?_) (fun hc22 => ?_)
  · refine wp_seq_k (fun K23 hK23 => ?_)
    refine wp_region_lit ?_
    refine lvw 26 (.agg #[.string (tx ([])), .int .i64 0, .int .i64 0, .int .i64 0, .int .i64 0, .int .i64 0, .int .u8 0, .string (tx ([])), .string (tx ([]))]) rfl rfl (by unfold execOp; go_simp; try (first | rfl | (repeat' (first | rfl | apply And.intro)))) ?_
    simp only [nz1, nz2, nz3]
    refine lvw 27 (.int .i64 ((get_m ((s.take 156).drop 148)).2)) rfl rfl (run_mv rfl rfl) ?_
    simp only [nz1, nz2, nz3]
    refine lst rfl (m_store 0 23 _ _ 0 (.agg #[.string (tx ([])), .int .i64 0, .int .i64 0, .int .i64 0, .int .i64 0, .int .i64 0, .int .u8 0, .string (tx ([])), .string (tx ([]))]) (old := #[.string (tx ([])), .int .i64 0, .int .i64 0, .int .i64 0, .int .i64 0, .int .i64 0, .int .u8 0, .string (tx ([])), .string (tx ([]))]) (new := #[.string (tx ([])), .int .i64 0, .int .i64 0, .int .i64 0, .int .i64 0, .int .i64 0, .int .u8 0, .string (tx ([])), .string (tx ([]))]) hm19 rfl rfl rfl rfl rfl (by exact sz_23) (show 0 + 9 ≤ 9 from by decide) (by simp [Value.cells, Value.oneCell']) rfl (fun w24 (hm25 : Mm none (fun _ => True) w w24 [.blk g4 #[.string (tx ([])), .int .i64 0, .int .i64 0, .int .i64 0, .int .i64 0, .int .i64 0, .int .u8 0, .string (tx ([])), .string (tx ([]))] 23]) => ?_))
    refine lvw 3 (.int .i64 ((get_m ((s.take 156).drop 148)).2)) rfl rfl (run_as rfl rfl) ?_
    simp only [nz1, nz2, nz3]
    refine wpList_nil ?_
    refine then_n (hK23 _ _ ?_)
    refine wp_ret ?_
    refine then_r ?_
    have he26 : hdecode_m s = ((Hdr.mk ([]) 0 0 0 0 0 (UInt8.ofNat 0) ([]) ([])), (get_m ((s.take 156).drop 148)).2) := (show hdecode_m s = ((Hdr.mk ([]) 0 0 0 0 0 (UInt8.ofNat 0) ([]) ([])), (get_m ((s.take 156).drop 148)).2) from by unfold hdecode_m; rw [if_neg hs7, if_neg hc12, if_pos hc22] <;> rfl)
    exact ⟨rfl, .tuple #[.agg #[.string (tx ([])), .int .i64 0, .int .i64 0, .int .i64 0, .int .i64 0, .int .i64 0, .int .u8 0, .string (tx ([])), .string (tx ([]))], .int .i64 ((get_m ((s.take 156).drop 148)).2)], Mem.res_ct rfl rfl (hm25.at 0 rfl) Tryd.underlying23 rfl (by exact sz_23) rfl, ⟨by (rw [he26]; try rfl), hm25.below⟩⟩
  refine wp_skip ?_
  refine then_n (hK20 _ _ ?_)
  refine wp_seq_k (fun K27 hK27 => ?_)
  refine wp_seq_k (fun K28 hK28 => ?_)
  refine wp_region_lit ?_
  refine lvw 28 (.int .i64 ((get_m ((s.take 156).drop 148)).1)) rfl rfl (run_mv rfl rfl) ?_
  simp only [nz1, nz2, nz3]
  refine lvw 29 (.string (tx s)) rfl rfl (run_mv rfl rfl) ?_
  simp only [nz1, nz2, nz3]
  refine lst rfl (m_call hm19 30 (.int .i64 ((hsum_m s))) rfl (run_hsum rfl rfl) (hsum_any s  _  ) (fun w29 (hm30 : Mm none (fun _ => True) w w29 [.blk g4 #[.string (tx ([])), .int .i64 0, .int .i64 0, .int .i64 0, .int .i64 0, .int .i64 0, .int .u8 0, .string (tx ([])), .string (tx ([]))] 23]) => ?_))
  have hf31 : 0 ≤ (hsum_m s) ∧ (hsum_m s) ≤ 131072 := hsum_rng s
  simp only [nz1, nz2, nz3]
  refine lvw 31 (.bool (decide (¬ (get_m ((s.take 156).drop 148)).1 = (hsum_m s)))) rfl rfl (z_neq ((get_m ((s.take 156).drop 148)).1) (hsum_m s) rfl rfl rfl) ?_
  simp only [nz1, nz2, nz3]
  refine wpList_nil ?_
  refine then_n (hK28 _ _ ?_)
  refine cond_d (¬ (get_m ((s.take 156).drop 148)).1 = (hsum_m s)) rfl (fun hc32 => ?_) (fun hc32 => ?_)
  · refine wp_seq_k (fun K33 hK33 => ?_)
    refine wp_region_lit ?_
    refine lvw 32 (.agg #[.string (tx ([])), .int .i64 0, .int .i64 0, .int .i64 0, .int .i64 0, .int .i64 0, .int .u8 0, .string (tx ([])), .string (tx ([]))]) rfl rfl (by unfold execOp; go_simp; try (first | rfl | (repeat' (first | rfl | apply And.intro)))) ?_
    simp only [nz1, nz2, nz3]
    refine lst rfl (m_store 0 23 _ _ 0 (.agg #[.string (tx ([])), .int .i64 0, .int .i64 0, .int .i64 0, .int .i64 0, .int .i64 0, .int .u8 0, .string (tx ([])), .string (tx ([]))]) (old := #[.string (tx ([])), .int .i64 0, .int .i64 0, .int .i64 0, .int .i64 0, .int .i64 0, .int .u8 0, .string (tx ([])), .string (tx ([]))]) (new := #[.string (tx ([])), .int .i64 0, .int .i64 0, .int .i64 0, .int .i64 0, .int .i64 0, .int .u8 0, .string (tx ([])), .string (tx ([]))]) hm30 rfl rfl rfl rfl rfl (by exact sz_23) (show 0 + 9 ≤ 9 from by decide) (by simp [Value.cells, Value.oneCell']) rfl (fun w34 (hm35 : Mm none (fun _ => True) w w34 [.blk g4 #[.string (tx ([])), .int .i64 0, .int .i64 0, .int .i64 0, .int .i64 0, .int .i64 0, .int .u8 0, .string (tx ([])), .string (tx ([]))] 23]) => ?_))
    refine lvw 3 (.int .i64 2) rfl rfl (run_as rfl rfl) ?_
    simp only [nz1, nz2, nz3]
    refine wpList_nil ?_
    refine then_n (hK33 _ _ ?_)
    refine wp_ret ?_
    refine then_r ?_
    have he36 : hdecode_m s = ((Hdr.mk ([]) 0 0 0 0 0 (UInt8.ofNat 0) ([]) ([])), 2) := (show hdecode_m s = ((Hdr.mk ([]) 0 0 0 0 0 (UInt8.ofNat 0) ([]) ([])), 2) from by unfold hdecode_m; rw [if_neg hs7, if_neg hc12, if_neg hc22, if_pos hc32] <;> rfl)
    exact ⟨rfl, .tuple #[.agg #[.string (tx ([])), .int .i64 0, .int .i64 0, .int .i64 0, .int .i64 0, .int .i64 0, .int .u8 0, .string (tx ([])), .string (tx ([]))], .int .i64 2], Mem.res_ct rfl rfl (hm35.at 0 rfl) Tryd.underlying23 rfl (by exact sz_23) rfl, ⟨by (rw [he36]; try rfl), hm35.below⟩⟩
  refine wp_skip ?_
  refine then_n (hK27 _ _ ?_)
  refine wp_seq_k (fun K37 hK37 => ?_)
  refine wp_region_lit ?_
  refine lst rfl (m_alloc (c := #[.int .i64 0, .int .i64 0, .int .i64 0, .int .i64 0, .int .i64 0]) (T := 51) hm30 6 rfl (by unfold execOp; go_simp; try rfl) (fun g40 w38 (hm39 : Mm none (fun _ => True) w w38 [.blk g4 #[.string (tx ([])), .int .i64 0, .int .i64 0, .int .i64 0, .int .i64 0, .int .i64 0, .int .u8 0, .string (tx ([])), .string (tx ([]))] 23, .blk g40 #[.int .i64 0, .int .i64 0, .int .i64 0, .int .i64 0, .int .i64 0] 51]) => ?_))
  simp only [nz1, nz2, nz3]
  refine wpList_nil ?_
  refine then_n (hK37 _ _ ?_)
  refine wp_seq_k (fun K41 hK41 => ?_)
  refine wp_region_lit ?_
  refine lvw 7 (.int .i64 100) rfl rfl (run_as rfl rfl) ?_
  simp only [nz1, nz2, nz3]
  refine wpList_nil ?_
  refine then_n (hK41 _ _ ?_)
  refine wp_seq_k (fun K42 hK42 => ?_)
  refine wp_seq_k (fun K43 hK43 => ?_)
  refine wp_region_lit ?_
  refine lvw 33 (.int .i64 0) rfl rfl (run_mv rfl rfl) ?_
  simp only [nz1, nz2, nz3]
  refine wpList_nil ?_
  refine then_n (hK43 _ _ ?_)
  refine wp_cutK (fun a' w' => ∃ (y63 : Nat) (y64 : Nat) (y65 : List UInt8) (y66 : Nat) (y67 : Nat) (y68 : Nat) (y69 : Nat) (y70 : Nat) (y71 : UInt8) (y72 : List UInt8) (y73 : List UInt8) (y74 : Int) (y75 : Int) (y76 : Int) (y77 : Int) (y78 : Int) (yu0 : Nat → Value), hdecode_m_l0 s ((5 - 0) + 1) (100, 0, ([]), 0, 0, 0, 0, 0, (UInt8.ofNat 0), ([]), ([]), 0, 0, 0, 0, 0) = .inl (y63, y64, y65, y66, y67, y68, y69, y70, y71, y72, y73, y74, y75, y76, y77, y78) ∧ (y63 ≤ 100 + 12 * y64 ∧ 100 ≤ y63 ∧ y64 ≤ 5) ∧ a' = ⟨#[.string (tx s), undef, .pointer (some ⟨g4, 0, none⟩), yu0 0, .int .i64 ((get_m ((s.take 156).drop 148)).1), yu0 1, .pointer (some ⟨g40, 0, none⟩), .int .i64 ((y63 : Nat) : Int), yu0 2, .string (tx s), .int .i64 ((s.length : Nat) : Int), .bool false, .bool false, .string (tx s), .string (tx ((s.take 265).drop 257)), .bool (decide (¬ ((s.take 265).drop 257) = [117, 115, 116, 97, 114, 0, 48, 48])), .bool (decide (¬ ((s.take 265).drop 257) = [117, 115, 116, 97, 114, 0, 48, 48])), undef, .tuple #[.int .i64 ((get_m ((s.take 156).drop 148)).1), .int .i64 ((get_m ((s.take 156).drop 148)).2)], .string (tx s), .string (tx ((s.take 156).drop 148)), .tuple #[.int .i64 ((get_m ((s.take 156).drop 148)).1), .int .i64 ((get_m ((s.take 156).drop 148)).2)], .int .i64 ((get_m ((s.take 156).drop 148)).1), .int .i64 ((get_m ((s.take 156).drop 148)).2), .int .i64 ((get_m ((s.take 156).drop 148)).2), .bool (decide (¬ (get_m ((s.take 156).drop 148)).2 = 0)), undef, undef, .int .i64 ((get_m ((s.take 156).drop 148)).1), .string (tx s), .int .i64 ((hsum_m s)), .bool (decide (¬ (get_m ((s.take 156).drop 148)).1 = (hsum_m s))), undef, .int .i64 ((y64 : Nat) : Int), yu0 3, yu0 4, yu0 5, yu0 6, yu0 7, yu0 8, yu0 9, yu0 10, yu0 11, yu0 12, yu0 13, yu0 14, yu0 15, yu0 16, yu0 17, yu0 18, yu0 19, yu0 20, yu0 21, yu0 22, yu0 23, yu0 24, yu0 25, yu0 26, yu0 27, yu0 28, undef, undef, undef, undef, undef, undef, undef, undef, undef, undef, undef, undef, undef, undef, undef, undef, undef, undef, undef, undef, undef, undef], []⟩ ∧ Mm none (fun _ => True) w w' [.blk g4 #[.string (tx y65), .int .i64 ((y66 : Nat) : Int), .int .i64 ((y67 : Nat) : Int), .int .i64 ((y68 : Nat) : Int), .int .i64 ((y69 : Nat) : Int), .int .i64 ((y70 : Nat) : Int), .int .u8 ((y71.toNat : Nat) : Int), .string (tx y72), .string (tx y73)] 23, .blk g40 #[.int .i64 (y74), .int .i64 (y75), .int .i64 (y76), .int .i64 (y77), .int .i64 (y78)] 51]) ?_ ?_
  · refine wp_block ?_
    refine wp_loop_n (fun n' a' w' => ∃ (n60 : Nat) (x44 : Nat) (x45 : Nat) (x46 : List UInt8) (x47 : Nat) (x48 : Nat) (x49 : Nat) (x50 : Nat) (x51 : Nat) (x52 : UInt8) (x53 : List UInt8) (x54 : List UInt8) (x55 : Int) (x56 : Int) (x57 : Int) (x58 : Int) (x59 : Int) (u0 : Nat → Value), n' = n60 ∧ (5 - x45) < n60 ∧ hdecode_m_l0 s ((5 - 0) + 1) (100, 0, ([]), 0, 0, 0, 0, 0, (UInt8.ofNat 0), ([]), ([]), 0, 0, 0, 0, 0) = hdecode_m_l0 s n60 (x44, x45, x46, x47, x48, x49, x50, x51, x52, x53, x54, x55, x56, x57, x58, x59) ∧ (x44 ≤ 100 + 12 * x45 ∧ 100 ≤ x44 ∧ x45 ≤ 5) ∧ a' = ⟨#[.string (tx s), undef, .pointer (some ⟨g4, 0, none⟩), u0 0, .int .i64 ((get_m ((s.take 156).drop 148)).1), u0 1, .pointer (some ⟨g40, 0, none⟩), .int .i64 ((x44 : Nat) : Int), u0 2, .string (tx s), .int .i64 ((s.length : Nat) : Int), .bool false, .bool false, .string (tx s), .string (tx ((s.take 265).drop 257)), .bool (decide (¬ ((s.take 265).drop 257) = [117, 115, 116, 97, 114, 0, 48, 48])), .bool (decide (¬ ((s.take 265).drop 257) = [117, 115, 116, 97, 114, 0, 48, 48])), undef, .tuple #[.int .i64 ((get_m ((s.take 156).drop 148)).1), .int .i64 ((get_m ((s.take 156).drop 148)).2)], .string (tx s), .string (tx ((s.take 156).drop 148)), .tuple #[.int .i64 ((get_m ((s.take 156).drop 148)).1), .int .i64 ((get_m ((s.take 156).drop 148)).2)], .int .i64 ((get_m ((s.take 156).drop 148)).1), .int .i64 ((get_m ((s.take 156).drop 148)).2), .int .i64 ((get_m ((s.take 156).drop 148)).2), .bool (decide (¬ (get_m ((s.take 156).drop 148)).2 = 0)), undef, undef, .int .i64 ((get_m ((s.take 156).drop 148)).1), .string (tx s), .int .i64 ((hsum_m s)), .bool (decide (¬ (get_m ((s.take 156).drop 148)).1 = (hsum_m s))), undef, .int .i64 ((x45 : Nat) : Int), u0 3, u0 4, u0 5, u0 6, u0 7, u0 8, u0 9, u0 10, u0 11, u0 12, u0 13, u0 14, u0 15, u0 16, u0 17, u0 18, u0 19, u0 20, u0 21, u0 22, u0 23, u0 24, u0 25, u0 26, u0 27, u0 28, undef, undef, undef, undef, undef, undef, undef, undef, undef, undef, undef, undef, undef, undef, undef, undef, undef, undef, undef, undef, undef, undef], []⟩ ∧ Mm none (fun _ => True) w w' [.blk g4 #[.string (tx x46), .int .i64 ((x47 : Nat) : Int), .int .i64 ((x48 : Nat) : Int), .int .i64 ((x49 : Nat) : Int), .int .i64 ((x50 : Nat) : Int), .int .i64 ((x51 : Nat) : Int), .int .u8 ((x52.toNat : Nat) : Int), .string (tx x53), .string (tx x54)] 23, .blk g40 #[.int .i64 (x55), .int .i64 (x56), .int .i64 (x57), .int .i64 (x58), .int .i64 (x59)] 51]) ⟨((5 - 0) + 1), 100, 0, ([]), 0, 0, 0, 0, 0, (UInt8.ofNat 0), ([]), ([]), 0, 0, 0, 0, 0, (fun qq => bif Nat.blt qq 24 then List.getD [.int .i64 0, .int .i64 ((get_m ((s.take 156).drop 148)).2), undef, undef, undef, undef, undef, undef, undef, undef, undef, undef, undef, undef, undef, undef, undef, undef, undef, undef, undef, undef, undef, undef] qq undef else List.getD [undef, undef, undef, undef, undef] (qq - 24) undef), rfl, Nat.lt_succ_self _, rfl, (by first | omega | (simp; done) | (simp; omega) | (simp at *; omega)), rfl, hm39⟩ ?_
    rintro n60 _ w80 ⟨_, x44, x45, x46, x47, x48, x49, x50, x51, x52, x53, x54, x55, x56, x57, x58, x59, u0, rfl, hl84, hi62, hde, rfl, hm81⟩ R82 hR82
    obtain ⟨k61, rfl⟩ : ∃ k, n60 = k + 1 := ⟨n60 - 1, by omega⟩
    refine wp_seq_k (fun K85 hK85 => ?_)
    refine wp_region_lit ?_
    refine lvw 34 (.bool (decide (x45 < 5))) rfl rfl (r_lss x45 5 rfl rfl rfl) ?_
    simp only [nz1, nz2, nz3]
    refine wpList_nil ?_
    refine then_n (hK85 _ _ ?_)
    refine wp_seq_k (fun K86 hK86 => ?_)
    refine cond_d (x45 < 5) rfl (fun hc87 => ?_) (fun hc87 => ?_)
    rotate_left
    · refine wp_exit ?_
      refine then_x ?_
      refine then_x ?_
      refine blk_x ?_
      refine then_n ?_
      exact ⟨x44, x45, x46, x47, x48, x49, x50, x51, x52, x53, x54, x55, x56, x57, x58, x59, (fun qq => bif Nat.blt qq 24 then List.getD [u0 0, u0 1, u0 2, .bool (decide (x45 < 5)), u0 4, u0 5, u0 6, u0 7, u0 8, u0 9, u0 10, u0 11, u0 12, u0 13, u0 14, u0 15, u0 16, u0 17, u0 18, u0 19, u0 20, u0 21, u0 22, u0 23] qq undef else List.getD [u0 24, u0 25, u0 26, u0 27, u0 28] (qq - 24) undef), (hi62.trans (show hdecode_m_b0 s (hdecode_m_l0 s k61) x44 x45 x46 x47 x48 x49 x50 x51 x52 x53 x54 x55 x56 x57 x58 x59 = .inl (x44, x45, x46, x47, x48, x49, x50, x51, x52, x53, x54, x55, x56, x57, x58, x59) from by unfold hdecode_m_b0; rw [if_neg hc87] <;> rfl)), (by first | omega | (simp; done) | (simp; omega) | (simp at *; omega)), rfl, hm81⟩
    refine wp_skip ?_
    refine then_n (hK86 _ _ ?_)
    refine wp_seq_k (fun K88 hK88 => ?_)
    refine wp_block ?_
    refine wp_seq_k (fun K89 hK89 => ?_)
    refine wp_region_lit ?_
    refine lvw 35 (.int .i64 ((x45 : Nat) : Int)) rfl rfl (run_mv rfl rfl) ?_
    simp only [nz1, nz2, nz3]
    refine lvw 8 (.int .i64 ((x45 : Nat) : Int)) rfl rfl (run_as rfl rfl) ?_
    simp only [nz1, nz2, nz3]
    refine wpList_nil ?_
    refine then_n (hK89 _ _ ?_)
    refine wp_seq_k (fun K90 hK90 => ?_)
    refine wp_region_lit ?_
    refine lvw 37 (.int .i64 ((x45 : Nat) : Int)) rfl rfl (run_mv rfl rfl) ?_
    simp only [nz1, nz2, nz3]
    refine lvw 38 (.string (tx s)) rfl rfl (run_mv rfl rfl) ?_
    simp only [nz1, nz2, nz3]
    refine lvw 39 (.int .i64 ((x44 : Nat) : Int)) rfl rfl (run_mv rfl rfl) ?_
    simp only [nz1, nz2, nz3]
    refine lvw 40 (.int .i64 ((x44 : Nat) : Int)) rfl rfl (run_mv rfl rfl) ?_
    simp only [nz1, nz2, nz3]
    refine lvw 41 (.int .i64 ((x45 : Nat) : Int)) rfl rfl (run_mv rfl rfl) ?_
    simp only [nz1, nz2, nz3]
    by_cases hx91 : x45 = 0
    · refine lvw 42 (.pointer (some ⟨0, 0, none⟩)) rfl rfl (Sx.r_ix 0 0 (by decide) Tryd.underlying51 sz_3 rfl rfl (show (Value.int .i64 ((x45 : Nat) : Int)) = .int .i64 (((0 : Nat)) : Int) from by congr 1; omega)) ?_
      simp only [nz1, nz2, nz3]
      refine lvw 43 (.int .i64 8) rfl rfl (r_cellw ((Laid.below hT hm81.below).wid 0 _ rfl) Tryd.underlying3 rfl rfl rfl) ?_
      simp only [nz1, nz2, nz3]
      refine lvw 44 (.int .i64 (((x44 + 8) : Nat) : Int)) rfl rfl (r_add x44 8 (show (x44 + 8) < 9223372036854775808 from by omega) rfl rfl rfl) ?_
      simp only [nz1, nz2, nz3]
      refine lvw 45 (.string (tx ((s.take (x44 + 8)).drop x44))) rfl rfl (t_cut s x44 (x44 + 8) (by omega) (by omega) Tryd.underlying9 rfl rfl rfl rfl) ?_
      simp only [nz1, nz2, nz3]
      refine lst rfl (m_call hm81 46 (.tuple #[.int .i64 ((get_m ((s.take (x44 + 8)).drop x44)).1), .int .i64 ((get_m ((s.take (x44 + 8)).drop x44)).2)]) rfl (run_get rfl rfl) (get_any ((s.take (x44 + 8)).drop x44)  _  (by first | omega | assumption | (rw [List.length_drop]; omega) | (rw [List.length_take]; omega) | (rw [List.length_drop, List.length_take]; omega) | (simp; done) | (simp; omega) | (simp only [List.length_append, List.length_cons, List.length_nil]; omega) | (simp only [List.length_append, List.length_cons, List.length_nil] at *; omega) | decide)) (fun w92 (hm93 : Mm none (fun _ => True) w w92 [.blk g4 #[.string (tx x46), .int .i64 ((x47 : Nat) : Int), .int .i64 ((x48 : Nat) : Int), .int .i64 ((x49 : Nat) : Int), .int .i64 ((x50 : Nat) : Int), .int .i64 ((x51 : Nat) : Int), .int .u8 ((x52.toNat : Nat) : Int), .string (tx x53), .string (tx x54)] 23, .blk g40 #[.int .i64 (x55), .int .i64 (x56), .int .i64 (x57), .int .i64 (x58), .int .i64 (x59)] 51]) => ?_))
      simp only [nz1, nz2, nz3]
      refine lvw 36 (.tuple #[.int .i64 ((get_m ((s.take (x44 + 8)).drop x44)).1), .int .i64 ((get_m ((s.take (x44 + 8)).drop x44)).2)]) rfl rfl (run_mv rfl rfl) ?_
      simp only [nz1, nz2, nz3]
      refine lvw 47 (.int .i64 ((get_m ((s.take (x44 + 8)).drop x44)).1)) rfl rfl (run_ex rfl rfl rfl) ?_
      simp only [nz1, nz2, nz3]
      refine lvw 48 (.int .i64 ((get_m ((s.take (x44 + 8)).drop x44)).2)) rfl rfl (run_ex rfl rfl rfl) ?_
      simp only [nz1, nz2, nz3]
      refine lvw 49 (.pointer (some ⟨g40, 0, none⟩)) rfl rfl (Sx.r_ix g40 0 (by decide) Tryd.underlying51 sz_3 rfl rfl (show (Value.int .i64 ((x45 : Nat) : Int)) = .int .i64 (((0 : Nat)) : Int) from by congr 1; omega)) ?_
      simp only [nz1, nz2, nz3]
      refine lst rfl (m_store 1 3 _ _ 0 (.int .i64 ((get_m ((s.take (x44 + 8)).drop x44)).1)) (old := #[.int .i64 (x55), .int .i64 (x56), .int .i64 (x57), .int .i64 (x58), .int .i64 (x59)]) (new := #[.int .i64 ((get_m ((s.take (x44 + 8)).drop x44)).1), .int .i64 (x56), .int .i64 (x57), .int .i64 (x58), .int .i64 (x59)]) hm93 rfl rfl rfl rfl rfl (by exact sz_3) (show 0 + 1 ≤ 5 from by decide) (one_all rfl) rfl (fun w94 (hm95 : Mm none (fun _ => True) w w94 [.blk g4 #[.string (tx x46), .int .i64 ((x47 : Nat) : Int), .int .i64 ((x48 : Nat) : Int), .int .i64 ((x49 : Nat) : Int), .int .i64 ((x50 : Nat) : Int), .int .i64 ((x51 : Nat) : Int), .int .u8 ((x52.toNat : Nat) : Int), .string (tx x53), .string (tx x54)] 23, .blk g40 #[.int .i64 ((get_m ((s.take (x44 + 8)).drop x44)).1), .int .i64 (x56), .int .i64 (x57), .int .i64 (x58), .int .i64 (x59)] 51]) => ?_))
      refine lvw 5 (.int .i64 ((get_m ((s.take (x44 + 8)).drop x44)).2)) rfl rfl (run_as rfl rfl) ?_
      simp only [nz1, nz2, nz3]
      refine wpList_nil ?_
      refine then_n (hK90 _ _ ?_)
      refine wp_seq_k (fun K96 hK96 => ?_)
      refine wp_seq_k (fun K97 hK97 => ?_)
      refine wp_region_lit ?_
      refine lvw 50 (.int .i64 ((get_m ((s.take (x44 + 8)).drop x44)).2)) rfl rfl (run_mv rfl rfl) ?_
      simp only [nz1, nz2, nz3]
      refine lvw 51 (.bool (decide (¬ (get_m ((s.take (x44 + 8)).drop x44)).2 = 0))) rfl rfl (z_neq ((get_m ((s.take (x44 + 8)).drop x44)).2) 0 rfl rfl rfl) ?_
      simp only [nz1, nz2, nz3]
      refine wpList_nil ?_
      refine then_n (hK97 _ _ ?_)
      refine cond_d (¬ (get_m ((s.take (x44 + 8)).drop x44)).2 = 0) rfl (fun hc98 => ?_) (fun hc98 => ?_)
      · refine wp_seq_k (fun K99 hK99 => ?_)
        refine wp_region_lit ?_
        refine lvw 52 (.agg #[.string (tx ([])), .int .i64 0, .int .i64 0, .int .i64 0, .int .i64 0, .int .i64 0, .int .u8 0, .string (tx ([])), .string (tx ([]))]) rfl rfl (by unfold execOp; go_simp; try (first | rfl | (repeat' (first | rfl | apply And.intro)))) ?_
        simp only [nz1, nz2, nz3]
        refine lvw 53 (.int .i64 ((get_m ((s.take (x44 + 8)).drop x44)).2)) rfl rfl (run_mv rfl rfl) ?_
        simp only [nz1, nz2, nz3]
        refine lst rfl (m_store 0 23 _ _ 0 (.agg #[.string (tx ([])), .int .i64 0, .int .i64 0, .int .i64 0, .int .i64 0, .int .i64 0, .int .u8 0, .string (tx ([])), .string (tx ([]))]) (old := #[.string (tx x46), .int .i64 ((x47 : Nat) : Int), .int .i64 ((x48 : Nat) : Int), .int .i64 ((x49 : Nat) : Int), .int .i64 ((x50 : Nat) : Int), .int .i64 ((x51 : Nat) : Int), .int .u8 ((x52.toNat : Nat) : Int), .string (tx x53), .string (tx x54)]) (new := #[.string (tx ([])), .int .i64 0, .int .i64 0, .int .i64 0, .int .i64 0, .int .i64 0, .int .u8 0, .string (tx ([])), .string (tx ([]))]) hm95 rfl rfl rfl rfl rfl (by exact sz_23) (show 0 + 9 ≤ 9 from by decide) (by simp [Value.cells, Value.oneCell']) rfl (fun w100 (hm101 : Mm none (fun _ => True) w w100 [.blk g4 #[.string (tx ([])), .int .i64 0, .int .i64 0, .int .i64 0, .int .i64 0, .int .i64 0, .int .u8 0, .string (tx ([])), .string (tx ([]))] 23, .blk g40 #[.int .i64 ((get_m ((s.take (x44 + 8)).drop x44)).1), .int .i64 (x56), .int .i64 (x57), .int .i64 (x58), .int .i64 (x59)] 51]) => ?_))
        refine lvw 3 (.int .i64 ((get_m ((s.take (x44 + 8)).drop x44)).2)) rfl rfl (run_as rfl rfl) ?_
        simp only [nz1, nz2, nz3]
        refine wpList_nil ?_
        refine then_n (hK99 _ _ ?_)
        refine wp_ret ?_
        refine then_r ?_
        refine blk_r ?_
        refine then_r ?_
        refine then_r ?_
        refine blk_r ?_
        refine then_r ?_
        refine then_r ?_
        have he102 : hdecode_m_l0 s ((5 - 0) + 1) (100, 0, ([]), 0, 0, 0, 0, 0, (UInt8.ofNat 0), ([]), ([]), 0, 0, 0, 0, 0) = .inr ((Hdr.mk ([]) 0 0 0 0 0 (UInt8.ofNat 0) ([]) ([])), (get_m ((s.take (x44 + 8)).drop x44)).2) := (hi62.trans (show hdecode_m_b0 s (hdecode_m_l0 s k61) x44 x45 x46 x47 x48 x49 x50 x51 x52 x53 x54 x55 x56 x57 x58 x59 = .inr ((Hdr.mk ([]) 0 0 0 0 0 (UInt8.ofNat 0) ([]) ([])), (get_m ((s.take (x44 + 8)).drop x44)).2) from by unfold hdecode_m_b0; rw [if_pos hc87, if_pos hx91, if_pos hc98] <;> rfl))
        have he103 : hdecode_m s = ((Hdr.mk ([]) 0 0 0 0 0 (UInt8.ofNat 0) ([]) ([])), (get_m ((s.take (x44 + 8)).drop x44)).2) := (show hdecode_m s = ((Hdr.mk ([]) 0 0 0 0 0 (UInt8.ofNat 0) ([]) ([])), (get_m ((s.take (x44 + 8)).drop x44)).2) from by unfold hdecode_m; rw [if_neg hs7, if_neg hc12, if_neg hc22, if_neg hc32, he102] <;> rfl)
        exact ⟨rfl, .tuple #[.agg #[.string (tx ([])), .int .i64 0, .int .i64 0, .int .i64 0, .int .i64 0, .int .i64 0, .int .u8 0, .string (tx ([])), .string (tx ([]))], .int .i64 ((get_m ((s.take (x44 + 8)).drop x44)).2)], Mem.res_ct rfl rfl (hm101.at 0 rfl) Tryd.underlying23 rfl (by exact sz_23) rfl, ⟨by (rw [he103]; try rfl), hm101.below⟩⟩
      refine wp_skip ?_
      refine then_n (hK96 _ _ ?_)
      refine wp_region_lit ?_
      refine lvw 54 (.int .i64 ((x44 : Nat) : Int)) rfl rfl (run_mv rfl rfl) ?_
      simp only [nz1, nz2, nz3]
      refine lvw 55 (.int .i64 ((x45 : Nat) : Int)) rfl rfl (run_mv rfl rfl) ?_
      simp only [nz1, nz2, nz3]
      refine lvw 56 (.pointer (some ⟨0, 0, none⟩)) rfl rfl (Sx.r_ix 0 0 (by decide) Tryd.underlying51 sz_3 rfl rfl (show (Value.int .i64 ((x45 : Nat) : Int)) = .int .i64 (((0 : Nat)) : Int) from by congr 1; omega)) ?_
      simp only [nz1, nz2, nz3]
      refine lvw 57 (.int .i64 8) rfl rfl (r_cellw ((Laid.below hT hm95.below).wid 0 _ rfl) Tryd.underlying3 rfl rfl rfl) ?_
      simp only [nz1, nz2, nz3]
      refine lvw 58 (.int .i64 (((x44 + 8) : Nat) : Int)) rfl rfl (r_add x44 8 (show (x44 + 8) < 9223372036854775808 from by omega) rfl rfl rfl) ?_
      simp only [nz1, nz2, nz3]
      refine lvw 7 (.int .i64 (((x44 + 8) : Nat) : Int)) rfl rfl (run_as rfl rfl) ?_
      simp only [nz1, nz2, nz3]
      refine wpList_nil ?_
      refine blk_n ?_
      refine then_n (hK88 _ _ ?_)
      refine wp_region_lit ?_
      refine lvw 59 (.int .i64 (((x45 + 1) : Nat) : Int)) rfl rfl (r_add x45 1 (show (x45 + 1) < 9223372036854775808 from by omega) rfl rfl rfl) ?_
      simp only [nz1, nz2, nz3]
      refine lvw 33 (.int .i64 (((x45 + 1) : Nat) : Int)) rfl rfl (run_mv rfl rfl) ?_
      simp only [nz1, nz2, nz3]
      refine wpList_nil ?_
      refine then_n (hR82 _ _ _ ⟨k61, (x44 + 8), (x45 + 1), x46, x47, x48, x49, x50, x51, x52, x53, x54, (get_m ((s.take (x44 + 8)).drop x44)).1, x56, x57, x58, x59, (fun qq => bif Nat.blt qq 24 then List.getD [u0 0, .int .i64 ((get_m ((s.take (x44 + 8)).drop x44)).2), .int .i64 ((x45 : Nat) : Int), .bool (decide (x45 < 5)), .int .i64 ((x45 : Nat) : Int), .tuple #[.int .i64 ((get_m ((s.take (x44 + 8)).drop x44)).1), .int .i64 ((get_m ((s.take (x44 + 8)).drop x44)).2)], .int .i64 ((x45 : Nat) : Int), .string (tx s), .int .i64 ((x44 : Nat) : Int), .int .i64 ((x44 : Nat) : Int), .int .i64 ((x45 : Nat) : Int), .pointer (some ⟨0, 0, none⟩), .int .i64 8, .int .i64 (((x44 + 8) : Nat) : Int), .string (tx ((s.take (x44 + 8)).drop x44)), .tuple #[.int .i64 ((get_m ((s.take (x44 + 8)).drop x44)).1), .int .i64 ((get_m ((s.take (x44 + 8)).drop x44)).2)], .int .i64 ((get_m ((s.take (x44 + 8)).drop x44)).1), .int .i64 ((get_m ((s.take (x44 + 8)).drop x44)).2), .pointer (some ⟨g40, 0, none⟩), .int .i64 ((get_m ((s.take (x44 + 8)).drop x44)).2), .bool (decide (¬ (get_m ((s.take (x44 + 8)).drop x44)).2 = 0)), u0 21, u0 22, .int .i64 ((x44 : Nat) : Int)] qq undef else List.getD [.int .i64 ((x45 : Nat) : Int), .pointer (some ⟨0, 0, none⟩), .int .i64 8, .int .i64 (((x44 + 8) : Nat) : Int), .int .i64 (((x45 + 1) : Nat) : Int)] (qq - 24) undef), rfl, (by first | omega | (simp; omega) | (simp at *; omega)), (hi62.trans (show hdecode_m_b0 s (hdecode_m_l0 s k61) x44 x45 x46 x47 x48 x49 x50 x51 x52 x53 x54 x55 x56 x57 x58 x59 = hdecode_m_l0 s k61 ((x44 + 8), (x45 + 1), x46, x47, x48, x49, x50, x51, x52, x53, x54, (get_m ((s.take (x44 + 8)).drop x44)).1, x56, x57, x58, x59) from by unfold hdecode_m_b0; rw [if_pos hc87, if_pos hx91, if_neg hc98] <;> rfl)), (by first | omega | (simp; done) | (simp; omega) | (simp at *; omega)), rfl, hm95⟩ ?_)
      omega
    by_cases hx104 : x45 = 1
    · refine lvw 42 (.pointer (some ⟨0, 1, none⟩)) rfl rfl (Sx.r_ix 0 1 (by decide) Tryd.underlying51 sz_3 rfl rfl (show (Value.int .i64 ((x45 : Nat) : Int)) = .int .i64 (((1 : Nat)) : Int) from by congr 1; omega)) ?_
      simp only [nz1, nz2, nz3]
      refine lvw 43 (.int .i64 8) rfl rfl (r_cellw ((Laid.below hT hm81.below).wid 1 _ rfl) Tryd.underlying3 rfl rfl rfl) ?_
      simp only [nz1, nz2, nz3]
      refine lvw 44 (.int .i64 (((x44 + 8) : Nat) : Int)) rfl rfl (r_add x44 8 (show (x44 + 8) < 9223372036854775808 from by omega) rfl rfl rfl) ?_
      simp only [nz1, nz2, nz3]
      refine lvw 45 (.string (tx ((s.take (x44 + 8)).drop x44))) rfl rfl (t_cut s x44 (x44 + 8) (by omega) (by omega) Tryd.underlying9 rfl rfl rfl rfl) ?_
      simp only [nz1, nz2, nz3]
      refine lst rfl (m_call hm81 46 (.tuple #[.int .i64 ((get_m ((s.take (x44 + 8)).drop x44)).1), .int .i64 ((get_m ((s.take (x44 + 8)).drop x44)).2)]) rfl (run_get rfl rfl) (get_any ((s.take (x44 + 8)).drop x44)  _  (by first | omega | assumption | (rw [List.length_drop]; omega) | (rw [List.length_take]; omega) | (rw [List.length_drop, List.length_take]; omega) | (simp; done) | (simp; omega) | (simp only [List.length_append, List.length_cons, List.length_nil]; omega) | (simp only [List.length_append, List.length_cons, List.length_nil] at *; omega) | decide)) (fun w105 (hm106 : Mm none (fun _ => True) w w105 [.blk g4 #[.string (tx x46), .int .i64 ((x47 : Nat) : Int), .int .i64 ((x48 : Nat) : Int), .int .i64 ((x49 : Nat) : Int), .int .i64 ((x50 : Nat) : Int), .int .i64 ((x51 : Nat) : Int), .int .u8 ((x52.toNat : Nat) : Int), .string (tx x53), .string (tx x54)] 23, .blk g40 #[.int .i64 (x55), .int .i64 (x56), .int .i64 (x57), .int .i64 (x58), .int .i64 (x59)] 51]) => ?_))
      simp only [nz1, nz2, nz3]
      refine lvw 36 (.tuple #[.int .i64 ((get_m ((s.take (x44 + 8)).drop x44)).1), .int .i64 ((get_m ((s.take (x44 + 8)).drop x44)).2)]) rfl rfl (run_mv rfl rfl) ?_
      simp only [nz1, nz2, nz3]
      refine lvw 47 (.int .i64 ((get_m ((s.take (x44 + 8)).drop x44)).1)) rfl rfl (run_ex rfl rfl rfl) ?_
      simp only [nz1, nz2, nz3]
      refine lvw 48 (.int .i64 ((get_m ((s.take (x44 + 8)).drop x44)).2)) rfl rfl (run_ex rfl rfl rfl) ?_
      simp only [nz1, nz2, nz3]
      refine lvw 49 (.pointer (some ⟨g40, 1, none⟩)) rfl rfl (Sx.r_ix g40 1 (by decide) Tryd.underlying51 sz_3 rfl rfl (show (Value.int .i64 ((x45 : Nat) : Int)) = .int .i64 (((1 : Nat)) : Int) from by congr 1; omega)) ?_
      simp only [nz1, nz2, nz3]
      refine lst rfl (m_store 1 3 _ _ 1 (.int .i64 ((get_m ((s.take (x44 + 8)).drop x44)).1)) (old := #[.int .i64 (x55), .int .i64 (x56), .int .i64 (x57), .int .i64 (x58), .int .i64 (x59)]) (new := #[.int .i64 (x55), .int .i64 ((get_m ((s.take (x44 + 8)).drop x44)).1), .int .i64 (x57), .int .i64 (x58), .int .i64 (x59)]) hm106 rfl rfl rfl rfl rfl (by exact sz_3) (show 1 + 1 ≤ 5 from by decide) (one_all rfl) rfl (fun w107 (hm108 : Mm none (fun _ => True) w w107 [.blk g4 #[.string (tx x46), .int .i64 ((x47 : Nat) : Int), .int .i64 ((x48 : Nat) : Int), .int .i64 ((x49 : Nat) : Int), .int .i64 ((x50 : Nat) : Int), .int .i64 ((x51 : Nat) : Int), .int .u8 ((x52.toNat : Nat) : Int), .string (tx x53), .string (tx x54)] 23, .blk g40 #[.int .i64 (x55), .int .i64 ((get_m ((s.take (x44 + 8)).drop x44)).1), .int .i64 (x57), .int .i64 (x58), .int .i64 (x59)] 51]) => ?_))
      refine lvw 5 (.int .i64 ((get_m ((s.take (x44 + 8)).drop x44)).2)) rfl rfl (run_as rfl rfl) ?_
      simp only [nz1, nz2, nz3]
      refine wpList_nil ?_
      refine then_n (hK90 _ _ ?_)
      refine wp_seq_k (fun K109 hK109 => ?_)
      refine wp_seq_k (fun K110 hK110 => ?_)
      refine wp_region_lit ?_
      refine lvw 50 (.int .i64 ((get_m ((s.take (x44 + 8)).drop x44)).2)) rfl rfl (run_mv rfl rfl) ?_
      simp only [nz1, nz2, nz3]
      refine lvw 51 (.bool (decide (¬ (get_m ((s.take (x44 + 8)).drop x44)).2 = 0))) rfl rfl (z_neq ((get_m ((s.take (x44 + 8)).drop x44)).2) 0 rfl rfl rfl) ?_
      simp only [nz1, nz2, nz3]
      refine wpList_nil ?_
      refine then_n (hK110 _ _ ?_)
      refine cond_d (¬ (get_m ((s.take (x44 + 8)).drop x44)).2 = 0) rfl (fun hc111 => ?_) (fun hc111 => ?_)
      · refine wp_seq_k (fun K112 hK112 => ?_)
        refine wp_region_lit ?_
        refine lvw 52 (.agg #[.string (tx ([])), .int .i64 0, .int .i64 0, .int .i64 0, .int .i64 0, .int .i64 0, .int .u8 0, .string (tx ([])), .string (tx ([]))]) rfl rfl (by unfold execOp; go_simp; try (first | rfl | (repeat' (first | rfl | apply And.intro)))) ?_
        simp only [nz1, nz2, nz3]
        refine lvw 53 (.int .i64 ((get_m ((s.take (x44 + 8)).drop x44)).2)) rfl rfl (run_mv rfl rfl) ?_
        simp only [nz1, nz2, nz3]
        refine lst rfl (m_store 0 23 _ _ 0 (.agg #[.string (tx ([])), .int .i64 0, .int .i64 0, .int .i64 0, .int .i64 0, .int .i64 0, .int .u8 0, .string (tx ([])), .string (tx ([]))]) (old := #[.string (tx x46), .int .i64 ((x47 : Nat) : Int), .int .i64 ((x48 : Nat) : Int), .int .i64 ((x49 : Nat) : Int), .int .i64 ((x50 : Nat) : Int), .int .i64 ((x51 : Nat) : Int), .int .u8 ((x52.toNat : Nat) : Int), .string (tx x53), .string (tx x54)]) (new := #[.string (tx ([])), .int .i64 0, .int .i64 0, .int .i64 0, .int .i64 0, .int .i64 0, .int .u8 0, .string (tx ([])), .string (tx ([]))]) hm108 rfl rfl rfl rfl rfl (by exact sz_23) (show 0 + 9 ≤ 9 from by decide) (by simp [Value.cells, Value.oneCell']) rfl (fun w113 (hm114 : Mm none (fun _ => True) w w113 [.blk g4 #[.string (tx ([])), .int .i64 0, .int .i64 0, .int .i64 0, .int .i64 0, .int .i64 0, .int .u8 0, .string (tx ([])), .string (tx ([]))] 23, .blk g40 #[.int .i64 (x55), .int .i64 ((get_m ((s.take (x44 + 8)).drop x44)).1), .int .i64 (x57), .int .i64 (x58), .int .i64 (x59)] 51]) => ?_))
        refine lvw 3 (.int .i64 ((get_m ((s.take (x44 + 8)).drop x44)).2)) rfl rfl (run_as rfl rfl) ?_
        simp only [nz1, nz2, nz3]
        refine wpList_nil ?_
        refine then_n (hK112 _ _ ?_)
        refine wp_ret ?_
        refine then_r ?_
        refine blk_r ?_
        refine then_r ?_
        refine then_r ?_
        refine blk_r ?_
        refine then_r ?_
        refine then_r ?_
        have he115 : hdecode_m_l0 s ((5 - 0) + 1) (100, 0, ([]), 0, 0, 0, 0, 0, (UInt8.ofNat 0), ([]), ([]), 0, 0, 0, 0, 0) = .inr ((Hdr.mk ([]) 0 0 0 0 0 (UInt8.ofNat 0) ([]) ([])), (get_m ((s.take (x44 + 8)).drop x44)).2) := (hi62.trans (show hdecode_m_b0 s (hdecode_m_l0 s k61) x44 x45 x46 x47 x48 x49 x50 x51 x52 x53 x54 x55 x56 x57 x58 x59 = .inr ((Hdr.mk ([]) 0 0 0 0 0 (UInt8.ofNat 0) ([]) ([])), (get_m ((s.take (x44 + 8)).drop x44)).2) from by unfold hdecode_m_b0; rw [if_pos hc87, if_neg hx91, if_pos hx104, if_pos hc111] <;> rfl))
        have he116 : hdecode_m s = ((Hdr.mk ([]) 0 0 0 0 0 (UInt8.ofNat 0) ([]) ([])), (get_m ((s.take (x44 + 8)).drop x44)).2) := (show hdecode_m s = ((Hdr.mk ([]) 0 0 0 0 0 (UInt8.ofNat 0) ([]) ([])), (get_m ((s.take (x44 + 8)).drop x44)).2) from by unfold hdecode_m; rw [if_neg hs7, if_neg hc12, if_neg hc22, if_neg hc32, he115] <;> rfl)
        exact ⟨rfl, .tuple #[.agg #[.string (tx ([])), .int .i64 0, .int .i64 0, .int .i64 0, .int .i64 0, .int .i64 0, .int .u8 0, .string (tx ([])), .string (tx ([]))], .int .i64 ((get_m ((s.take (x44 + 8)).drop x44)).2)], Mem.res_ct rfl rfl (hm114.at 0 rfl) Tryd.underlying23 rfl (by exact sz_23) rfl, ⟨by (rw [he116]; try rfl), hm114.below⟩⟩
      refine wp_skip ?_
      refine then_n (hK109 _ _ ?_)
      refine wp_region_lit ?_
      refine lvw 54 (.int .i64 ((x44 : Nat) : Int)) rfl rfl (run_mv rfl rfl) ?_
      simp only [nz1, nz2, nz3]
      refine lvw 55 (.int .i64 ((x45 : Nat) : Int)) rfl rfl (run_mv rfl rfl) ?_
      simp only [nz1, nz2, nz3]
      refine lvw 56 (.pointer (some ⟨0, 1, none⟩)) rfl rfl (Sx.r_ix 0 1 (by decide) Tryd.underlying51 sz_3 rfl rfl (show (Value.int .i64 ((x45 : Nat) : Int)) = .int .i64 (((1 : Nat)) : Int) from by congr 1; omega)) ?_
      simp only [nz1, nz2, nz3]
      refine lvw 57 (.int .i64 8) rfl rfl (r_cellw ((Laid.below hT hm108.below).wid 1 _ rfl) Tryd.underlying3 rfl rfl rfl) ?_
      simp only [nz1, nz2, nz3]
      refine lvw 58 (.int .i64 (((x44 + 8) : Nat) : Int)) rfl rfl (r_add x44 8 (show (x44 + 8) < 9223372036854775808 from by omega) rfl rfl rfl) ?_
      simp only [nz1, nz2, nz3]
      refine lvw 7 (.int .i64 (((x44 + 8) : Nat) : Int)) rfl rfl (run_as rfl rfl) ?_
      simp only [nz1, nz2, nz3]
      refine wpList_nil ?_
      refine blk_n ?_
      refine then_n (hK88 _ _ ?_)
      refine wp_region_lit ?_
      refine lvw 59 (.int .i64 (((x45 + 1) : Nat) : Int)) rfl rfl (r_add x45 1 (show (x45 + 1) < 9223372036854775808 from by omega) rfl rfl rfl) ?_
      simp only [nz1, nz2, nz3]
      refine lvw 33 (.int .i64 (((x45 + 1) : Nat) : Int)) rfl rfl (run_mv rfl rfl) ?_
      simp only [nz1, nz2, nz3]
      refine wpList_nil ?_
      refine then_n (hR82 _ _ _ ⟨k61, (x44 + 8), (x45 + 1), x46, x47, x48, x49, x50, x51, x52, x53, x54, x55, (get_m ((s.take (x44 + 8)).drop x44)).1, x57, x58, x59, (fun qq => bif Nat.blt qq 24 then List.getD [u0 0, .int .i64 ((get_m ((s.take (x44 + 8)).drop x44)).2), .int .i64 ((x45 : Nat) : Int), .bool (decide (x45 < 5)), .int .i64 ((x45 : Nat) : Int), .tuple #[.int .i64 ((get_m ((s.take (x44 + 8)).drop x44)).1), .int .i64 ((get_m ((s.take (x44 + 8)).drop x44)).2)], .int .i64 ((x45 : Nat) : Int), .string (tx s), .int .i64 ((x44 : Nat) : Int), .int .i64 ((x44 : Nat) : Int), .int .i64 ((x45 : Nat) : Int), .pointer (some ⟨0, 1, none⟩), .int .i64 8, .int .i64 (((x44 + 8) : Nat) : Int), .string (tx ((s.take (x44 + 8)).drop x44)), .tuple #[.int .i64 ((get_m ((s.take (x44 + 8)).drop x44)).1), .int .i64 ((get_m ((s.take (x44 + 8)).drop x44)).2)], .int .i64 ((get_m ((s.take (x44 + 8)).drop x44)).1), .int .i64 ((get_m ((s.take (x44 + 8)).drop x44)).2), .pointer (some ⟨g40, 1, none⟩), .int .i64 ((get_m ((s.take (x44 + 8)).drop x44)).2), .bool (decide (¬ (get_m ((s.take (x44 + 8)).drop x44)).2 = 0)), u0 21, u0 22, .int .i64 ((x44 : Nat) : Int)] qq undef else List.getD [.int .i64 ((x45 : Nat) : Int), .pointer (some ⟨0, 1, none⟩), .int .i64 8, .int .i64 (((x44 + 8) : Nat) : Int), .int .i64 (((x45 + 1) : Nat) : Int)] (qq - 24) undef), rfl, (by first | omega | (simp; omega) | (simp at *; omega)), (hi62.trans (show hdecode_m_b0 s (hdecode_m_l0 s k61) x44 x45 x46 x47 x48 x49 x50 x51 x52 x53 x54 x55 x56 x57 x58 x59 = hdecode_m_l0 s k61 ((x44 + 8), (x45 + 1), x46, x47, x48, x49, x50, x51, x52, x53, x54, x55, (get_m ((s.take (x44 + 8)).drop x44)).1, x57, x58, x59) from by unfold hdecode_m_b0; rw [if_pos hc87, if_neg hx91, if_pos hx104, if_neg hc111] <;> rfl)), (by first | omega | (simp; done) | (simp; omega) | (simp at *; omega)), rfl, hm108⟩ ?_)
      omega
    by_cases hx117 : x45 = 2
    · refine lvw 42 (.pointer (some ⟨0, 2, none⟩)) rfl rfl (Sx.r_ix 0 2 (by decide) Tryd.underlying51 sz_3 rfl rfl (show (Value.int .i64 ((x45 : Nat) : Int)) = .int .i64 (((2 : Nat)) : Int) from by congr 1; omega)) ?_
      simp only [nz1, nz2, nz3]
      refine lvw 43 (.int .i64 8) rfl rfl (r_cellw ((Laid.below hT hm81.below).wid 2 _ rfl) Tryd.underlying3 rfl rfl rfl) ?_
      simp only [nz1, nz2, nz3]
      refine lvw 44 (.int .i64 (((x44 + 8) : Nat) : Int)) rfl rfl (r_add x44 8 (show (x44 + 8) < 9223372036854775808 from by omega) rfl rfl rfl) ?_
      simp only [nz1, nz2, nz3]
      refine lvw 45 (.string (tx ((s.take (x44 + 8)).drop x44))) rfl rfl (t_cut s x44 (x44 + 8) (by omega) (by omega) Tryd.underlying9 rfl rfl rfl rfl) ?_
      simp only [nz1, nz2, nz3]
      refine lst rfl (m_call hm81 46 (.tuple #[.int .i64 ((get_m ((s.take (x44 + 8)).drop x44)).1), .int .i64 ((get_m ((s.take (x44 + 8)).drop x44)).2)]) rfl (run_get rfl rfl) (get_any ((s.take (x44 + 8)).drop x44)  _  (by first | omega | assumption | (rw [List.length_drop]; omega) | (rw [List.length_take]; omega) | (rw [List.length_drop, List.length_take]; omega) | (simp; done) | (simp; omega) | (simp only [List.length_append, List.length_cons, List.length_nil]; omega) | (simp only [List.length_append, List.length_cons, List.length_nil] at *; omega) | decide)) (fun w118 (hm119 : Mm none (fun _ => True) w w118 [.blk g4 #[.string (tx x46), .int .i64 ((x47 : Nat) : Int), .int .i64 ((x48 : Nat) : Int), .int .i64 ((x49 : Nat) : Int), .int .i64 ((x50 : Nat) : Int), .int .i64 ((x51 : Nat) : Int), .int .u8 ((x52.toNat : Nat) : Int), .string (tx x53), .string (tx x54)] 23, .blk g40 #[.int .i64 (x55), .int .i64 (x56), .int .i64 (x57), .int .i64 (x58), .int .i64 (x59)] 51]) => ?_))
      simp only [nz1, nz2, nz3]
      refine lvw 36 (.tuple #[.int .i64 ((get_m ((s.take (x44 + 8)).drop x44)).1), .int .i64 ((get_m ((s.take (x44 + 8)).drop x44)).2)]) rfl rfl (run_mv rfl rfl) ?_
      simp only [nz1, nz2, nz3]
      refine lvw 47 (.int .i64 ((get_m ((s.take (x44 + 8)).drop x44)).1)) rfl rfl (run_ex rfl rfl rfl) ?_
      simp only [nz1, nz2, nz3]
      refine lvw 48 (.int .i64 ((get_m ((s.take (x44 + 8)).drop x44)).2)) rfl rfl (run_ex rfl rfl rfl) ?_
      simp only [nz1, nz2, nz3]
      refine lvw 49 (.pointer (some ⟨g40, 2, none⟩)) rfl rfl (Sx.r_ix g40 2 (by decide) Tryd.underlying51 sz_3 rfl rfl (show (Value.int .i64 ((x45 : Nat) : Int)) = .int .i64 (((2 : Nat)) : Int) from by congr 1; omega)) ?_
      simp only [nz1, nz2, nz3]
      refine lst rfl (m_store 1 3 _ _ 2 (.int .i64 ((get_m ((s.take (x44 + 8)).drop x44)).1)) (old := #[.int .i64 (x55), .int .i64 (x56), .int .i64 (x57), .int .i64 (x58), .int .i64 (x59)]) (new := #[.int .i64 (x55), .int .i64 (x56), .int .i64 ((get_m ((s.take (x44 + 8)).drop x44)).1), .int .i64 (x58), .int .i64 (x59)]) hm119 rfl rfl rfl rfl rfl (by exact sz_3) (show 2 + 1 ≤ 5 from by decide) (one_all rfl) rfl (fun w120 (hm121 : Mm none (fun _ => True) w w120 [.blk g4 #[.string (tx x46), .int .i64 ((x47 : Nat) : Int), .int .i64 ((x48 : Nat) : Int), .int .i64 ((x49 : Nat) : Int), .int .i64 ((x50 : Nat) : Int), .int .i64 ((x51 : Nat) : Int), .int .u8 ((x52.toNat : Nat) : Int), .string (tx x53), .string (tx x54)] 23, .blk g40 #[.int .i64 (x55), .int .i64 (x56), .int .i64 ((get_m ((s.take (x44 + 8)).drop x44)).1), .int .i64 (x58), .int .i64 (x59)] 51]) => ?_))
      refine lvw 5 (.int .i64 ((get_m ((s.take (x44 + 8)).drop x44)).2)) rfl rfl (run_as rfl rfl) ?_
      simp only [nz1, nz2, nz3]
      refine wpList_nil ?_
      refine then_n (hK90 _ _ ?_)
      refine wp_seq_k (fun K122 hK122 => ?_)
      refine wp_seq_k (fun K123 hK123 => ?_)
      refine wp_region_lit ?_
      refine lvw 50 (.int .i64 ((get_m ((s.take (x44 + 8)).drop x44)).2)) rfl rfl (run_mv rfl rfl) ?_
      simp only [nz1, nz2, nz3]
      refine lvw 51 (.bool (decide (¬ (get_m ((s.take (x44 + 8)).drop x44)).2 = 0))) rfl rfl (z_neq ((get_m ((s.take (x44 + 8)).drop x44)).2) 0 rfl rfl rfl) ?_
      simp only [nz1, nz2, nz3]
      refine wpList_nil ?_
      refine then_n (hK123 _ _ ?_)
      refine cond_d (¬ (get_m ((s.take (x44 + 8)).drop x44)).2 = 0) rfl (fun hc124 => ?_) (fun hc124 => ?_)
      · refine wp_seq_k (fun K125 hK125 => ?_)
        refine wp_region_lit ?_
        refine lvw 52 (.agg #[.string (tx ([])), .int .i64 0, .int .i64 0, .int .i64 0, .int .i64 0, .int .i64 0, .int .u8 0, .string (tx ([])), .string (tx ([]))]) rfl rfl (by unfold execOp; go_simp; try (first | rfl | (repeat' (first | rfl | apply And.intro)))) ?_
        simp only [nz1, nz2, nz3]
        refine lvw 53 (.int .i64 ((get_m ((s.take (x44 + 8)).drop x44)).2)) rfl rfl (run_mv rfl rfl) ?_
        simp only [nz1, nz2, nz3]
        refine lst rfl (m_store 0 23 _ _ 0 (.agg #[.string (tx ([])), .int .i64 0, .int .i64 0, .int .i64 0, .int .i64 0, .int .i64 0, .int .u8 0, .string (tx ([])), .string (tx ([]))]) (old := #[.string (tx x46), .int .i64 ((x47 : Nat) : Int), .int .i64 ((x48 : Nat) : Int), .int .i64 ((x49 : Nat) : Int), .int .i64 ((x50 : Nat) : Int), .int .i64 ((x51 : Nat) : Int), .int .u8 ((x52.toNat : Nat) : Int), .string (tx x53), .string (tx x54)]) (new := #[.string (tx ([])), .int .i64 0, .int .i64 0, .int .i64 0, .int .i64 0, .int .i64 0, .int .u8 0, .string (tx ([])), .string (tx ([]))]) hm121 rfl rfl rfl rfl rfl (by exact sz_23) (show 0 + 9 ≤ 9 from by decide) (by simp [Value.cells, Value.oneCell']) rfl (fun w126 (hm127 : Mm none (fun _ => True) w w126 [.blk g4 #[.string (tx ([])), .int .i64 0, .int .i64 0, .int .i64 0, .int .i64 0, .int .i64 0, .int .u8 0, .string (tx ([])), .string (tx ([]))] 23, .blk g40 #[.int .i64 (x55), .int .i64 (x56), .int .i64 ((get_m ((s.take (x44 + 8)).drop x44)).1), .int .i64 (x58), .int .i64 (x59)] 51]) => ?_))
        refine lvw 3 (.int .i64 ((get_m ((s.take (x44 + 8)).drop x44)).2)) rfl rfl (run_as rfl rfl) ?_
        simp only [nz1, nz2, nz3]
        refine wpList_nil ?_
        refine then_n (hK125 _ _ ?_)
        refine wp_ret ?_
        refine then_r ?_
        refine blk_r ?_
        refine then_r ?_
        refine then_r ?_
        refine blk_r ?_
        refine then_r ?_
        refine then_r ?_
        have he128 : hdecode_m_l0 s ((5 - 0) + 1) (100, 0, ([]), 0, 0, 0, 0, 0, (UInt8.ofNat 0), ([]), ([]), 0, 0, 0, 0, 0) = .inr ((Hdr.mk ([]) 0 0 0 0 0 (UInt8.ofNat 0) ([]) ([])), (get_m ((s.take (x44 + 8)).drop x44)).2) := (hi62.trans (show hdecode_m_b0 s (hdecode_m_l0 s k61) x44 x45 x46 x47 x48 x49 x50 x51 x52 x53 x54 x55 x56 x57 x58 x59 = .inr ((Hdr.mk ([]) 0 0 0 0 0 (UInt8.ofNat 0) ([]) ([])), (get_m ((s.take (x44 + 8)).drop x44)).2) from by unfold hdecode_m_b0; rw [if_pos hc87, if_neg hx91, if_neg hx104, if_pos hx117, if_pos hc124] <;> rfl))
        have he129 : hdecode_m s = ((Hdr.mk ([]) 0 0 0 0 0 (UInt8.ofNat 0) ([]) ([])), (get_m ((s.take (x44 + 8)).drop x44)).2) := (show hdecode_m s = ((Hdr.mk ([]) 0 0 0 0 0 (UInt8.ofNat 0) ([]) ([])), (get_m ((s.take (x44 + 8)).drop x44)).2) from by unfold hdecode_m; rw [if_neg hs7, if_neg hc12, if_neg hc22, if_neg hc32, he128] <;> rfl)
        exact ⟨rfl, .tuple #[.agg #[.string (tx ([])), .int .i64 0, .int .i64 0, .int .i64 0, .int .i64 0, .int .i64 0, .int .u8 0, .string (tx ([])), .string (tx ([]))], .int .i64 ((get_m ((s.take (x44 + 8)).drop x44)).2)], Mem.res_ct rfl rfl (hm127.at 0 rfl) Tryd.underlying23 rfl (by exact sz_23) rfl, ⟨by (rw [he129]; try rfl), hm127.below⟩⟩
      refine wp_skip ?_
      refine then_n (hK122 _ _ ?_)
      refine wp_region_lit ?_
      refine lvw 54 (.int .i64 ((x44 : Nat) : Int)) rfl rfl (run_mv rfl rfl) ?_
      simp only [nz1, nz2, nz3]
      refine lvw 55 (.int .i64 ((x45 : Nat) : Int)) rfl rfl (run_mv rfl rfl) ?_
      simp only [nz1, nz2, nz3]
      refine lvw 56 (.pointer (some ⟨0, 2, none⟩)) rfl rfl (Sx.r_ix 0 2 (by decide) Tryd.underlying51 sz_3 rfl rfl (show (Value.int .i64 ((x45 : Nat) : Int)) = .int .i64 (((2 : Nat)) : Int) from by congr 1; omega)) ?_
      simp only [nz1, nz2, nz3]
      refine lvw 57 (.int .i64 8) rfl rfl (r_cellw ((Laid.below hT hm121.below).wid 2 _ rfl) Tryd.underlying3 rfl rfl rfl) ?_
      simp only [nz1, nz2, nz3]
      refine lvw 58 (.int .i64 (((x44 + 8) : Nat) : Int)) rfl rfl (r_add x44 8 (show (x44 + 8) < 9223372036854775808 from by omega) rfl rfl rfl) ?_
      simp only [nz1, nz2, nz3]
      refine lvw 7 (.int .i64 (((x44 + 8) : Nat) : Int)) rfl rfl (run_as rfl rfl) ?_
      simp only [nz1, nz2, nz3]
      refine wpList_nil ?_
      refine blk_n ?_
      refine then_n (hK88 _ _ ?_)
      refine wp_region_lit ?_
      refine lvw 59 (.int .i64 (((x45 + 1) : Nat) : Int)) rfl rfl (r_add x45 1 (show (x45 + 1) < 9223372036854775808 from by omega) rfl rfl rfl) ?_
      simp only [nz1, nz2, nz3]
      refine lvw 33 (.int .i64 (((x45 + 1) : Nat) : Int)) rfl rfl (run_mv rfl rfl) ?_
      simp only [nz1, nz2, nz3]
      refine wpList_nil ?_
      refine then_n (hR82 _ _ _ ⟨k61, (x44 + 8), (x45 + 1), x46, x47, x48, x49, x50, x51, x52, x53, x54, x55, x56, (get_m ((s.take (x44 + 8)).drop x44)).1, x58, x59, (fun qq => bif Nat.blt qq 24 then List.getD [u0 0, .int .i64 ((get_m ((s.take (x44 + 8)).drop x44)).2), .int .i64 ((x45 : Nat) : Int), .bool (decide (x45 < 5)), .int .i64 ((x45 : Nat) : Int), .tuple #[.int .i64 ((get_m ((s.take (x44 + 8)).drop x44)).1), .int .i64 ((get_m ((s.take (x44 + 8)).drop x44)).2)], .int .i64 ((x45 : Nat) : Int), .string (tx s), .int .i64 ((x44 : Nat) : Int), .int .i64 ((x44 : Nat) : Int), .int .i64 ((x45 : Nat) : Int), .pointer (some ⟨0, 2, none⟩), .int .i64 8, .int .i64 (((x44 + 8) : Nat) : Int), .string (tx ((s.take (x44 + 8)).drop x44)), .tuple #[.int .i64 ((get_m ((s.take (x44 + 8)).drop x44)).1), .int .i64 ((get_m ((s.take (x44 + 8)).drop x44)).2)], .int .i64 ((get_m ((s.take (x44 + 8)).drop x44)).1), .int .i64 ((get_m ((s.take (x44 + 8)).drop x44)).2), .pointer (some ⟨g40, 2, none⟩), .int .i64 ((get_m ((s.take (x44 + 8)).drop x44)).2), .bool (decide (¬ (get_m ((s.take (x44 + 8)).drop x44)).2 = 0)), u0 21, u0 22, .int .i64 ((x44 : Nat) : Int)] qq undef else List.getD [.int .i64 ((x45 : Nat) : Int), .pointer (some ⟨0, 2, none⟩), .int .i64 8, .int .i64 (((x44 + 8) : Nat) : Int), .int .i64 (((x45 + 1) : Nat) : Int)] (qq - 24) undef), rfl, (by first | omega | (simp; omega) | (simp at *; omega)), (hi62.trans (show hdecode_m_b0 s (hdecode_m_l0 s k61) x44 x45 x46 x47 x48 x49 x50 x51 x52 x53 x54 x55 x56 x57 x58 x59 = hdecode_m_l0 s k61 ((x44 + 8), (x45 + 1), x46, x47, x48, x49, x50, x51, x52, x53, x54, x55, x56, (get_m ((s.take (x44 + 8)).drop x44)).1, x58, x59) from by unfold hdecode_m_b0; rw [if_pos hc87, if_neg hx91, if_neg hx104, if_pos hx117, if_neg hc124] <;> rfl)), (by first | omega | (simp; done) | (simp; omega) | (simp at *; omega)), rfl, hm121⟩ ?_)
      omega
    by_cases hx130 : x45 = 3
    · refine lvw 42 (.pointer (some ⟨0, 3, none⟩)) rfl rfl (Sx.r_ix 0 3 (by decide) Tryd.underlying51 sz_3 rfl rfl (show (Value.int .i64 ((x45 : Nat) : Int)) = .int .i64 (((3 : Nat)) : Int) from by congr 1; omega)) ?_
      simp only [nz1, nz2, nz3]
      refine lvw 43 (.int .i64 12) rfl rfl (r_cellw ((Laid.below hT hm81.below).wid 3 _ rfl) Tryd.underlying3 rfl rfl rfl) ?_
      simp only [nz1, nz2, nz3]
      refine lvw 44 (.int .i64 (((x44 + 12) : Nat) : Int)) rfl rfl (r_add x44 12 (show (x44 + 12) < 9223372036854775808 from by omega) rfl rfl rfl) ?_
      simp only [nz1, nz2, nz3]
      refine lvw 45 (.string (tx ((s.take (x44 + 12)).drop x44))) rfl rfl (t_cut s x44 (x44 + 12) (by omega) (by omega) Tryd.underlying9 rfl rfl rfl rfl) ?_
      simp only [nz1, nz2, nz3]
      refine lst rfl (m_call hm81 46 (.tuple #[.int .i64 ((get_m ((s.take (x44 + 12)).drop x44)).1), .int .i64 ((get_m ((s.take (x44 + 12)).drop x44)).2)]) rfl (run_get rfl rfl) (get_any ((s.take (x44 + 12)).drop x44)  _  (by first | omega | assumption | (rw [List.length_drop]; omega) | (rw [List.length_take]; omega) | (rw [List.length_drop, List.length_take]; omega) | (simp; done) | (simp; omega) | (simp only [List.length_append, List.length_cons, List.length_nil]; omega) | (simp only [List.length_append, List.length_cons, List.length_nil] at *; omega) | decide)) (fun w131 (hm132 : Mm none (fun _ => True) w w131 [.blk g4 #[.string (tx x46), .int .i64 ((x47 : Nat) : Int), .int .i64 ((x48 : Nat) : Int), .int .i64 ((x49 : Nat) : Int), .int .i64 ((x50 : Nat) : Int), .int .i64 ((x51 : Nat) : Int), .int .u8 ((x52.toNat : Nat) : Int), .string (tx x53), .string (tx x54)] 23, .blk g40 #[.int .i64 (x55), .int .i64 (x56), .int .i64 (x57), .int .i64 (x58), .int .i64 (x59)] 51]) => ?_))
      simp only [nz1, nz2, nz3]
      refine lvw 36 (.tuple #[.int .i64 ((get_m ((s.take (x44 + 12)).drop x44)).1), .int .i64 ((get_m ((s.take (x44 + 12)).drop x44)).2)]) rfl rfl (run_mv rfl rfl) ?_
      simp only [nz1, nz2, nz3]
      refine lvw 47 (.int .i64 ((get_m ((s.take (x44 + 12)).drop x44)).1)) rfl rfl (run_ex rfl rfl rfl) ?_
      simp only [nz1, nz2, nz3]
      refine lvw 48 (.int .i64 ((get_m ((s.take (x44 + 12)).drop x44)).2)) rfl rfl (run_ex rfl rfl rfl) ?_
      simp only [nz1, nz2, nz3]
      refine lvw 49 (.pointer (some ⟨g40, 3, none⟩)) rfl rfl (Sx.r_ix g40 3 (by decide) Tryd.underlying51 sz_3 rfl rfl (show (Value.int .i64 ((x45 : Nat) : Int)) = .int .i64 (((3 : Nat)) : Int) from by congr 1; omega)) ?_
      simp only [nz1, nz2, nz3]
      refine lst rfl (m_store 1 3 _ _ 3 (.int .i64 ((get_m ((s.take (x44 + 12)).drop x44)).1)) (old := #[.int .i64 (x55), .int .i64 (x56), .int .i64 (x57), .int .i64 (x58), .int .i64 (x59)]) (new := #[.int .i64 (x55), .int .i64 (x56), .int .i64 (x57), .int .i64 ((get_m ((s.take (x44 + 12)).drop x44)).1), .int .i64 (x59)]) hm132 rfl rfl rfl rfl rfl (by exact sz_3) (show 3 + 1 ≤ 5 from by decide) (one_all rfl) rfl (fun w133 (hm134 : Mm none (fun _ => True) w w133 [.blk g4 #[.string (tx x46), .int .i64 ((x47 : Nat) : Int), .int .i64 ((x48 : Nat) : Int), .int .i64 ((x49 : Nat) : Int), .int .i64 ((x50 : Nat) : Int), .int .i64 ((x51 : Nat) : Int), .int .u8 ((x52.toNat : Nat) : Int), .string (tx x53), .string (tx x54)] 23, .blk g40 #[.int .i64 (x55), .int .i64 (x56), .int .i64 (x57), .int .i64 ((get_m ((s.take (x44 + 12)).drop x44)).1), .int .i64 (x59)] 51]) => ?_))
      refine lvw 5 (.int .i64 ((get_m ((s.take (x44 + 12)).drop x44)).2)) rfl rfl (run_as rfl rfl) ?_
      simp only [nz1, nz2, nz3]
      refine wpList_nil ?_
      refine then_n (hK90 _ _ ?_)
      refine wp_seq_k (fun K135 hK135 => ?_)
      refine wp_seq_k (fun K136 hK136 => ?_)
      refine wp_region_lit ?_
      refine lvw 50 (.int .i64 ((get_m ((s.take (x44 + 12)).drop x44)).2)) rfl rfl (run_mv rfl rfl) ?_
      simp only [nz1, nz2, nz3]
      refine lvw 51 (.bool (decide (¬ (get_m ((s.take (x44 + 12)).drop x44)).2 = 0))) rfl rfl (z_neq ((get_m ((s.take (x44 + 12)).drop x44)).2) 0 rfl rfl rfl) ?_
      simp only [nz1, nz2, nz3]
      refine wpList_nil ?_
      refine then_n (hK136 _ _ ?_)
      refine cond_d (¬ (get_m ((s.take (x44 + 12)).drop x44)).2 = 0) rfl (fun hc137 => ?_) (fun hc137 => ?_)
      · refine wp_seq_k (fun K138 hK138 => ?_)
        refine wp_region_lit ?_
        refine lvw 52 (.agg #[.string (tx ([])), .int .i64 0, .int .i64 0, .int .i64 0, .int .i64 0, .int .i64 0, .int .u8 0, .string (tx ([])), .string (tx ([]))]) rfl rfl (by unfold execOp; go_simp; try (first | rfl | (repeat' (first | rfl | apply And.intro)))) ?_
        simp only [nz1, nz2, nz3]
        refine lvw 53 (.int .i64 ((get_m ((s.take (x44 + 12)).drop x44)).2)) rfl rfl (run_mv rfl rfl) ?_
        simp only [nz1, nz2, nz3]
        refine lst rfl (m_store 0 23 _ _ 0 (.agg #[.string (tx ([])), .int .i64 0, .int .i64 0, .int .i64 0, .int .i64 0, .int .i64 0, .int .u8 0, .string (tx ([])), .string (tx ([]))]) (old := #[.string (tx x46), .int .i64 ((x47 : Nat) : Int), .int .i64 ((x48 : Nat) : Int), .int .i64 ((x49 : Nat) : Int), .int .i64 ((x50 : Nat) : Int), .int .i64 ((x51 : Nat) : Int), .int .u8 ((x52.toNat : Nat) : Int), .string (tx x53), .string (tx x54)]) (new := #[.string (tx ([])), .int .i64 0, .int .i64 0, .int .i64 0, .int .i64 0, .int .i64 0, .int .u8 0, .string (tx ([])), .string (tx ([]))]) hm134 rfl rfl rfl rfl rfl (by exact sz_23) (show 0 + 9 ≤ 9 from by decide) (by simp [Value.cells, Value.oneCell']) rfl (fun w139 (hm140 : Mm none (fun _ => True) w w139 [.blk g4 #[.string (tx ([])), .int .i64 0, .int .i64 0, .int .i64 0, .int .i64 0, .int .i64 0, .int .u8 0, .string (tx ([])), .string (tx ([]))] 23, .blk g40 #[.int .i64 (x55), .int .i64 (x56), .int .i64 (x57), .int .i64 ((get_m ((s.take (x44 + 12)).drop x44)).1), .int .i64 (x59)] 51]) => ?_))
        refine lvw 3 (.int .i64 ((get_m ((s.take (x44 + 12)).drop x44)).2)) rfl rfl (run_as rfl rfl) ?_
        simp only [nz1, nz2, nz3]
        refine wpList_nil ?_
        refine then_n (hK138 _ _ ?_)
        refine wp_ret ?_
        refine then_r ?_
        refine blk_r ?_
        refine then_r ?_
        refine then_r ?_
        refine blk_r ?_
        refine then_r ?_
        refine then_r ?_
        have he141 : hdecode_m_l0 s ((5 - 0) + 1) (100, 0, ([]), 0, 0, 0, 0, 0, (UInt8.ofNat 0), ([]), ([]), 0, 0, 0, 0, 0) = .inr ((Hdr.mk ([]) 0 0 0 0 0 (UInt8.ofNat 0) ([]) ([])), (get_m ((s.take (x44 + 12)).drop x44)).2) := (hi62.trans (show hdecode_m_b0 s (hdecode_m_l0 s k61) x44 x45 x46 x47 x48 x49 x50 x51 x52 x53 x54 x55 x56 x57 x58 x59 = .inr ((Hdr.mk ([]) 0 0 0 0 0 (UInt8.ofNat 0) ([]) ([])), (get_m ((s.take (x44 + 12)).drop x44)).2) from by unfold hdecode_m_b0; rw [if_pos hc87, if_neg hx91, if_neg hx104, if_neg hx117, if_pos hx130, if_pos hc137] <;> rfl))
        have he142 : hdecode_m s = ((Hdr.mk ([]) 0 0 0 0 0 (UInt8.ofNat 0) ([]) ([])), (get_m ((s.take (x44 + 12)).drop x44)).2) := (show hdecode_m s = ((Hdr.mk ([]) 0 0 0 0 0 (UInt8.ofNat 0) ([]) ([])), (get_m ((s.take (x44 + 12)).drop x44)).2) from by unfold hdecode_m; rw [if_neg hs7, if_neg hc12, if_neg hc22, if_neg hc32, he141] <;> rfl)
        exact ⟨rfl, .tuple #[.agg #[.string (tx ([])), .int .i64 0, .int .i64 0, .int .i64 0, .int .i64 0, .int .i64 0, .int .u8 0, .string (tx ([])), .string (tx ([]))], .int .i64 ((get_m ((s.take (x44 + 12)).drop x44)).2)], Mem.res_ct rfl rfl (hm140.at 0 rfl) Tryd.underlying23 rfl (by exact sz_23) rfl, ⟨by (rw [he142]; try rfl), hm140.below⟩⟩
      refine wp_skip ?_
      refine then_n (hK135 _ _ ?_)
      refine wp_region_lit ?_
      refine lvw 54 (.int .i64 ((x44 : Nat) : Int)) rfl rfl (run_mv rfl rfl) ?_
      simp only [nz1, nz2, nz3]
      refine lvw 55 (.int .i64 ((x45 : Nat) : Int)) rfl rfl (run_mv rfl rfl) ?_
      simp only [nz1, nz2, nz3]
      refine lvw 56 (.pointer (some ⟨0, 3, none⟩)) rfl rfl (Sx.r_ix 0 3 (by decide) Tryd.underlying51 sz_3 rfl rfl (show (Value.int .i64 ((x45 : Nat) : Int)) = .int .i64 (((3 : Nat)) : Int) from by congr 1; omega)) ?_
      simp only [nz1, nz2, nz3]
      refine lvw 57 (.int .i64 12) rfl rfl (r_cellw ((Laid.below hT hm134.below).wid 3 _ rfl) Tryd.underlying3 rfl rfl rfl) ?_
      simp only [nz1, nz2, nz3]
      refine lvw 58 (.int .i64 (((x44 + 12) : Nat) : Int)) rfl rfl (r_add x44 12 (show (x44 + 12) < 9223372036854775808 from by omega) rfl rfl rfl) ?_
      simp only [nz1, nz2, nz3]
      refine lvw 7 (.int .i64 (((x44 + 12) : Nat) : Int)) rfl rfl (run_as rfl rfl) ?_
      simp only [nz1, nz2, nz3]
      refine wpList_nil ?_
      refine blk_n ?_
      refine then_n (hK88 _ _ ?_)
      refine wp_region_lit ?_
      refine lvw 59 (.int .i64 (((x45 + 1) : Nat) : Int)) rfl rfl (r_add x45 1 (show (x45 + 1) < 9223372036854775808 from by omega) rfl rfl rfl) ?_
      simp only [nz1, nz2, nz3]
      refine lvw 33 (.int .i64 (((x45 + 1) : Nat) : Int)) rfl rfl (run_mv rfl rfl) ?_
      simp only [nz1, nz2, nz3]
      refine wpList_nil ?_
      refine then_n (hR82 _ _ _ ⟨k61, (x44 + 12), (x45 + 1), x46, x47, x48, x49, x50, x51, x52, x53, x54, x55, x56, x57, (get_m ((s.take (x44 + 12)).drop x44)).1, x59, (fun qq => bif Nat.blt qq 24 then List.getD [u0 0, .int .i64 ((get_m ((s.take (x44 + 12)).drop x44)).2), .int .i64 ((x45 : Nat) : Int), .bool (decide (x45 < 5)), .int .i64 ((x45 : Nat) : Int), .tuple #[.int .i64 ((get_m ((s.take (x44 + 12)).drop x44)).1), .int .i64 ((get_m ((s.take (x44 + 12)).drop x44)).2)], .int .i64 ((x45 : Nat) : Int), .string (tx s), .int .i64 ((x44 : Nat) : Int), .int .i64 ((x44 : Nat) : Int), .int .i64 ((x45 : Nat) : Int), .pointer (some ⟨0, 3, none⟩), .int .i64 12, .int .i64 (((x44 + 12) : Nat) : Int), .string (tx ((s.take (x44 + 12)).drop x44)), .tuple #[.int .i64 ((get_m ((s.take (x44 + 12)).drop x44)).1), .int .i64 ((get_m ((s.take (x44 + 12)).drop x44)).2)], .int .i64 ((get_m ((s.take (x44 + 12)).drop x44)).1), .int .i64 ((get_m ((s.take (x44 + 12)).drop x44)).2), .pointer (some ⟨g40, 3, none⟩), .int .i64 ((get_m ((s.take (x44 + 12)).drop x44)).2), .bool (decide (¬ (get_m ((s.take (x44 + 12)).drop x44)).2 = 0)), u0 21, u0 22, .int .i64 ((x44 : Nat) : Int)] qq undef else List.getD [.int .i64 ((x45 : Nat) : Int), .pointer (some ⟨0, 3, none⟩), .int .i64 12, .int .i64 (((x44 + 12) : Nat) : Int), .int .i64 (((x45 + 1) : Nat) : Int)] (qq - 24) undef), rfl, (by first | omega | (simp; omega) | (simp at *; omega)), (hi62.trans (show hdecode_m_b0 s (hdecode_m_l0 s k61) x44 x45 x46 x47 x48 x49 x50 x51 x52 x53 x54 x55 x56 x57 x58 x59 = hdecode_m_l0 s k61 ((x44 + 12), (x45 + 1), x46, x47, x48, x49, x50, x51, x52, x53, x54, x55, x56, x57, (get_m ((s.take (x44 + 12)).drop x44)).1, x59) from by unfold hdecode_m_b0; rw [if_pos hc87, if_neg hx91, if_neg hx104, if_neg hx117, if_pos hx130, if_neg hc137] <;> rfl)), (by first | omega | (simp; done) | (simp; omega) | (simp at *; omega)), rfl, hm134⟩ ?_)
      omega
    have hx143 : x45 = 4 := by omega
    refine lvw 42 (.pointer (some ⟨0, 4, none⟩)) rfl rfl (Sx.r_ix 0 4 (by decide) Tryd.underlying51 sz_3 rfl rfl (show (Value.int .i64 ((x45 : Nat) : Int)) = .int .i64 (((4 : Nat)) : Int) from by congr 1; omega)) ?_
    simp only [nz1, nz2, nz3]
    refine lvw 43 (.int .i64 12) rfl rfl (r_cellw ((Laid.below hT hm81.below).wid 4 _ rfl) Tryd.underlying3 rfl rfl rfl) ?_
    simp only [nz1, nz2, nz3]
    refine lvw 44 (.int .i64 (((x44 + 12) : Nat) : Int)) rfl rfl (r_add x44 12 (show (x44 + 12) < 9223372036854775808 from by omega) rfl rfl rfl) ?_
    simp only [nz1, nz2, nz3]
    refine lvw 45 (.string (tx ((s.take (x44 + 12)).drop x44))) rfl rfl (t_cut s x44 (x44 + 12) (by omega) (by omega) Tryd.underlying9 rfl rfl rfl rfl) ?_
    simp only [nz1, nz2, nz3]
    refine lst rfl (m_call hm81 46 (.tuple #[.int .i64 ((get_m ((s.take (x44 + 12)).drop x44)).1), .int .i64 ((get_m ((s.take (x44 + 12)).drop x44)).2)]) rfl (run_get rfl rfl) (get_any ((s.take (x44 + 12)).drop x44)  _  (by first | omega | assumption | (rw [List.length_drop]; omega) | (rw [List.length_take]; omega) | (rw [List.length_drop, List.length_take]; omega) | (simp; done) | (simp; omega) | (simp only [List.length_append, List.length_cons, List.length_nil]; omega) | (simp only [List.length_append, List.length_cons, List.length_nil] at *; omega) | decide)) (fun w144 (hm145 : Mm none (fun _ => True) w w144 [.blk g4 #[.string (tx x46), .int .i64 ((x47 : Nat) : Int), .int .i64 ((x48 : Nat) : Int), .int .i64 ((x49 : Nat) : Int), .int .i64 ((x50 : Nat) : Int), .int .i64 ((x51 : Nat) : Int), .int .u8 ((x52.toNat : Nat) : Int), .string (tx x53), .string (tx x54)] 23, .blk g40 #[.int .i64 (x55), .int .i64 (x56), .int .i64 (x57), .int .i64 (x58), .int .i64 (x59)] 51]) => ?_))
    simp only [nz1, nz2, nz3]
    refine lvw 36 (.tuple #[.int .i64 ((get_m ((s.take (x44 + 12)).drop x44)).1), .int .i64 ((get_m ((s.take (x44 + 12)).drop x44)).2)]) rfl rfl (run_mv rfl rfl) ?_
    simp only [nz1, nz2, nz3]
    refine lvw 47 (.int .i64 ((get_m ((s.take (x44 + 12)).drop x44)).1)) rfl rfl (run_ex rfl rfl rfl) ?_
    simp only [nz1, nz2, nz3]
    refine lvw 48 (.int .i64 ((get_m ((s.take (x44 + 12)).drop x44)).2)) rfl rfl (run_ex rfl rfl rfl) ?_
    simp only [nz1, nz2, nz3]
    refine lvw 49 (.pointer (some ⟨g40, 4, none⟩)) rfl rfl (Sx.r_ix g40 4 (by decide) Tryd.underlying51 sz_3 rfl rfl (show (Value.int .i64 ((x45 : Nat) : Int)) = .int .i64 (((4 : Nat)) : Int) from by congr 1; omega)) ?_
    simp only [nz1, nz2, nz3]
    refine lst rfl (m_store 1 3 _ _ 4 (.int .i64 ((get_m ((s.take (x44 + 12)).drop x44)).1)) (old := #[.int .i64 (x55), .int .i64 (x56), .int .i64 (x57), .int .i64 (x58), .int .i64 (x59)]) (new := #[.int .i64 (x55), .int .i64 (x56), .int .i64 (x57), .int .i64 (x58), .int .i64 ((get_m ((s.take (x44 + 12)).drop x44)).1)]) hm145 rfl rfl rfl rfl rfl (by exact sz_3) (show 4 + 1 ≤ 5 from by decide) (one_all rfl) rfl (fun w146 (hm147 : Mm none (fun _ => True) w w146 [.blk g4 #[.string (tx x46), .int .i64 ((x47 : Nat) : Int), .int .i64 ((x48 : Nat) : Int), .int .i64 ((x49 : Nat) : Int), .int .i64 ((x50 : Nat) : Int), .int .i64 ((x51 : Nat) : Int), .int .u8 ((x52.toNat : Nat) : Int), .string (tx x53), .string (tx x54)] 23, .blk g40 #[.int .i64 (x55), .int .i64 (x56), .int .i64 (x57), .int .i64 (x58), .int .i64 ((get_m ((s.take (x44 + 12)).drop x44)).1)] 51]) => ?_))
    refine lvw 5 (.int .i64 ((get_m ((s.take (x44 + 12)).drop x44)).2)) rfl rfl (run_as rfl rfl) ?_
    simp only [nz1, nz2, nz3]
    refine wpList_nil ?_
    refine then_n (hK90 _ _ ?_)
    refine wp_seq_k (fun K148 hK148 => ?_)
    refine wp_seq_k (fun K149 hK149 => ?_)
    refine wp_region_lit ?_
    refine lvw 50 (.int .i64 ((get_m ((s.take (x44 + 12)).drop x44)).2)) rfl rfl (run_mv rfl rfl) ?_
    simp only [nz1, nz2, nz3]
    refine lvw 51 (.bool (decide (¬ (get_m ((s.take (x44 + 12)).drop x44)).2 = 0))) rfl rfl (z_neq ((get_m ((s.take (x44 + 12)).drop x44)).2) 0 rfl rfl rfl) ?_
    simp only [nz1, nz2, nz3]
    refine wpList_nil ?_
    refine then_n (hK149 _ _ ?_)
    refine cond_d (¬ (get_m ((s.take (x44 + 12)).drop x44)).2 = 0) rfl (fun hc150 => ?_) (fun hc150 => ?_)
    · refine wp_seq_k (fun K151 hK151 => ?_)
      refine wp_region_lit ?_
      refine lvw 52 (.agg #[.string (tx ([])), .int .i64 0, .int .i64 0, .int .i64 0, .int .i64 0, .int .i64 0, .int .u8 0, .string (tx ([])), .string (tx ([]))]) rfl rfl (by unfold execOp; go_simp; try (first | rfl | (repeat' (first | rfl | apply And.intro)))) ?_
      simp only [nz1, nz2, nz3]
      refine lvw 53 (.int .i64 ((get_m ((s.take (x44 + 12)).drop x44)).2)) rfl rfl (run_mv rfl rfl) ?_
      simp only [nz1, nz2, nz3]
      refine lst rfl (m_store 0 23 _ _ 0 (.agg #[.string (tx ([])), .int .i64 0, .int .i64 0, .int .i64 0, .int .i64 0, .int .i64 0, .int .u8 0, .string (tx ([])), .string (tx ([]))]) (old := #[.string (tx x46), .int .i64 ((x47 : Nat) : Int), .int .i64 ((x48 : Nat) : Int), .int .i64 ((x49 : Nat) : Int), .int .i64 ((x50 : Nat) : Int), .int .i64 ((x51 : Nat) : Int), .int .u8 ((x52.toNat : Nat) : Int), .string (tx x53), .string (tx x54)]) (new := #[.string (tx ([])), .int .i64 0, .int .i64 0, .int .i64 0, .int .i64 0, .int .i64 0, .int .u8 0, .string (tx ([])), .string (tx ([]))]) hm147 rfl rfl rfl rfl rfl (by exact sz_23) (show 0 + 9 ≤ 9 from by decide) (by simp [Value.cells, Value.oneCell']) rfl (fun w152 (hm153 : Mm none (fun _ => True) w w152 [.blk g4 #[.string (tx ([])), .int .i64 0, .int .i64 0, .int .i64 0, .int .i64 0, .int .i64 0, .int .u8 0, .string (tx ([])), .string (tx ([]))] 23, .blk g40 #[.int .i64 (x55), .int .i64 (x56), .int .i64 (x57), .int .i64 (x58), .int .i64 ((get_m ((s.take (x44 + 12)).drop x44)).1)] 51]) => ?_))
      refine lvw 3 (.int .i64 ((get_m ((s.take (x44 + 12)).drop x44)).2)) rfl rfl (run_as rfl rfl) ?_
      simp only [nz1, nz2, nz3]
      refine wpList_nil ?_
      refine then_n (hK151 _ _ ?_)
      refine wp_ret ?_
      refine then_r ?_
      refine blk_r ?_
      refine then_r ?_
      refine then_r ?_
      refine blk_r ?_
      refine then_r ?_
      refine then_r ?_
      have he154 : hdecode_m_l0 s ((5 - 0) + 1) (100, 0, ([]), 0, 0, 0, 0, 0, (UInt8.ofNat 0), ([]), ([]), 0, 0, 0, 0, 0) = .inr ((Hdr.mk ([]) 0 0 0 0 0 (UInt8.ofNat 0) ([]) ([])), (get_m ((s.take (x44 + 12)).drop x44)).2) := (hi62.trans (show hdecode_m_b0 s (hdecode_m_l0 s k61) x44 x45 x46 x47 x48 x49 x50 x51 x52 x53 x54 x55 x56 x57 x58 x59 = .inr ((Hdr.mk ([]) 0 0 0 0 0 (UInt8.ofNat 0) ([]) ([])), (get_m ((s.take (x44 + 12)).drop x44)).2) from by unfold hdecode_m_b0; rw [if_pos hc87, if_neg hx91, if_neg hx104, if_neg hx117, if_neg hx130, if_pos hc150] <;> rfl))
      have he155 : hdecode_m s = ((Hdr.mk ([]) 0 0 0 0 0 (UInt8.ofNat 0) ([]) ([])), (get_m ((s.take (x44 + 12)).drop x44)).2) := (show hdecode_m s = ((Hdr.mk ([]) 0 0 0 0 0 (UInt8.ofNat 0) ([]) ([])), (get_m ((s.take (x44 + 12)).drop x44)).2) from by unfold hdecode_m; rw [if_neg hs7, if_neg hc12, if_neg hc22, if_neg hc32, he154] <;> rfl)
      exact ⟨rfl, .tuple #[.agg #[.string (tx ([])), .int .i64 0, .int .i64 0, .int .i64 0, .int .i64 0, .int .i64 0, .int .u8 0, .string (tx ([])), .string (tx ([]))], .int .i64 ((get_m ((s.take (x44 + 12)).drop x44)).2)], Mem.res_ct rfl rfl (hm153.at 0 rfl) Tryd.underlying23 rfl (by exact sz_23) rfl, ⟨by (rw [he155]; try rfl), hm153.below⟩⟩
    refine wp_skip ?_
    refine then_n (hK148 _ _ ?_)
    refine wp_region_lit ?_
    refine lvw 54 (.int .i64 ((x44 : Nat) : Int)) rfl rfl (run_mv rfl rfl) ?_
    simp only [nz1, nz2, nz3]
    refine lvw 55 (.int .i64 ((x45 : Nat) : Int)) rfl rfl (run_mv rfl rfl) ?_
    simp only [nz1, nz2, nz3]
    refine lvw 56 (.pointer (some ⟨0, 4, none⟩)) rfl rfl (Sx.r_ix 0 4 (by decide) Tryd.underlying51 sz_3 rfl rfl (show (Value.int .i64 ((x45 : Nat) : Int)) = .int .i64 (((4 : Nat)) : Int) from by congr 1; omega)) ?_
    simp only [nz1, nz2, nz3]
    refine lvw 57 (.int .i64 12) rfl rfl (r_cellw ((Laid.below hT hm147.below).wid 4 _ rfl) Tryd.underlying3 rfl rfl rfl) ?_
    simp only [nz1, nz2, nz3]
    refine lvw 58 (.int .i64 (((x44 + 12) : Nat) : Int)) rfl rfl (r_add x44 12 (show (x44 + 12) < 9223372036854775808 from by omega) rfl rfl rfl) ?_
    simp only [nz1, nz2, nz3]
    refine lvw 7 (.int .i64 (((x44 + 12) : Nat) : Int)) rfl rfl (run_as rfl rfl) ?_
    simp only [nz1, nz2, nz3]
    refine wpList_nil ?_
    refine blk_n ?_
    refine then_n (hK88 _ _ ?_)
    refine wp_region_lit ?_
    refine lvw 59 (.int .i64 (((x45 + 1) : Nat) : Int)) rfl rfl (r_add x45 1 (show (x45 + 1) < 9223372036854775808 from by omega) rfl rfl rfl) ?_
    simp only [nz1, nz2, nz3]
    refine lvw 33 (.int .i64 (((x45 + 1) : Nat) : Int)) rfl rfl (run_mv rfl rfl) ?_
    simp only [nz1, nz2, nz3]
    refine wpList_nil ?_
    refine then_n (hR82 _ _ _ ⟨k61, (x44 + 12), (x45 + 1), x46, x47, x48, x49, x50, x51, x52, x53, x54, x55, x56, x57, x58, (get_m ((s.take (x44 + 12)).drop x44)).1, (fun qq => bif Nat.blt qq 24 then List.getD [u0 0, .int .i64 ((get_m ((s.take (x44 + 12)).drop x44)).2), .int .i64 ((x45 : Nat) : Int), .bool (decide (x45 < 5)), .int .i64 ((x45 : Nat) : Int), .tuple #[.int .i64 ((get_m ((s.take (x44 + 12)).drop x44)).1), .int .i64 ((get_m ((s.take (x44 + 12)).drop x44)).2)], .int .i64 ((x45 : Nat) : Int), .string (tx s), .int .i64 ((x44 : Nat) : Int), .int .i64 ((x44 : Nat) : Int), .int .i64 ((x45 : Nat) : Int), .pointer (some ⟨0, 4, none⟩), .int .i64 12, .int .i64 (((x44 + 12) : Nat) : Int), .string (tx ((s.take (x44 + 12)).drop x44)), .tuple #[.int .i64 ((get_m ((s.take (x44 + 12)).drop x44)).1), .int .i64 ((get_m ((s.take (x44 + 12)).drop x44)).2)], .int .i64 ((get_m ((s.take (x44 + 12)).drop x44)).1), .int .i64 ((get_m ((s.take (x44 + 12)).drop x44)).2), .pointer (some ⟨g40, 4, none⟩), .int .i64 ((get_m ((s.take (x44 + 12)).drop x44)).2), .bool (decide (¬ (get_m ((s.take (x44 + 12)).drop x44)).2 = 0)), u0 21, u0 22, .int .i64 ((x44 : Nat) : Int)] qq undef else List.getD [.int .i64 ((x45 : Nat) : Int), .pointer (some ⟨0, 4, none⟩), .int .i64 12, .int .i64 (((x44 + 12) : Nat) : Int), .int .i64 (((x45 + 1) : Nat) : Int)] (qq - 24) undef), rfl, (by first | omega | (simp; omega) | (simp at *; omega)), (hi62.trans (show hdecode_m_b0 s (hdecode_m_l0 s k61) x44 x45 x46 x47 x48 x49 x50 x51 x52 x53 x54 x55 x56 x57 x58 x59 = hdecode_m_l0 s k61 ((x44 + 12), (x45 + 1), x46, x47, x48, x49, x50, x51, x52, x53, x54, x55, x56, x57, x58, (get_m ((s.take (x44 + 12)).drop x44)).1) from by unfold hdecode_m_b0; rw [if_pos hc87, if_neg hx91, if_neg hx104, if_neg hx117, if_neg hx130, if_neg hc150] <;> rfl)), (by first | omega | (simp; done) | (simp; omega) | (simp at *; omega)), rfl, hm147⟩ ?_)
    omega
  rintro _ w156 ⟨y63, y64, y65, y66, y67, y68, y69, y70, y71, y72, y73, y74, y75, y76, y77, y78, yu0, hx79, hde, rfl, hm157⟩
  have hq158 : hdecode_m s = hdecode_m_k0 s y63 y64 y65 y66 y67 y68 y69 y70 y71 y72 y73 y74 y75 y76 y77 y78 := (show hdecode_m s = hdecode_m_k0 s y63 y64 y65 y66 y67 y68 y69 y70 y71 y72 y73 y74 y75 y76 y77 y78 from by unfold hdecode_m; rw [if_neg hs7, if_neg hc12, if_neg hc22, if_neg hc32, hx79] <;> rfl)
  refine then_n (hK42 _ _ ?_)
  refine wp_seq_k (fun K159 hK159 => ?_)
  have hm160 := hm157.drew
  refine wp_region_held_drew (S := fun w' => Mem.Blk w' g40 (#[.int .i64 (y74), .int .i64 (y75), .int .i64 (y76), .int .i64 (y77), .int .i64 (y78)]) 51) (by kernel_rfl) (hm160.at 1 rfl) (fun _ => ?_)
  generalize w156.drew = w161 at *
  refine tk 0 60 (.string (tx s)) rfl rfl (fun _ hw => run_mv rfl rfl) (hm160.at 1 rfl) ?_
  simp only [nz1, nz2, nz3]
  refine tk 1 61 (.string (tx (s.take 100))) rfl rfl (fun _ hw => t_to s 100 (by omega) Tryd.underlying9 rfl rfl rfl) (hm160.at 1 rfl) ?_
  simp only [nz1, nz2, nz3]
  refine tk 3 63 (.pointer (some ⟨g40, 0, none⟩)) rfl rfl (fun _ hw => Sx.r_ix g40 0 (by decide) Tryd.underlying51 sz_3 rfl rfl rfl) (hm160.at 1 rfl) ?_
  simp only [nz1, nz2, nz3]
  refine tk 4 64 (.int .i64 (y74)) rfl rfl (fun _ hw => r_load hw rfl Tryd.underlying3 rfl rfl rfl) (hm160.at 1 rfl) ?_
  simp only [nz1, nz2, nz3]
  refine tk 5 65 (.pointer (some ⟨g40, 1, none⟩)) rfl rfl (fun _ hw => Sx.r_ix g40 1 (by decide) Tryd.underlying51 sz_3 rfl rfl rfl) (hm160.at 1 rfl) ?_
  simp only [nz1, nz2, nz3]
  refine tk 6 66 (.int .i64 (y75)) rfl rfl (fun _ hw => r_load hw rfl Tryd.underlying3 rfl rfl rfl) (hm160.at 1 rfl) ?_
  simp only [nz1, nz2, nz3]
  refine tk 7 67 (.pointer (some ⟨g40, 2, none⟩)) rfl rfl (fun _ hw => Sx.r_ix g40 2 (by decide) Tryd.underlying51 sz_3 rfl rfl rfl) (hm160.at 1 rfl) ?_
  simp only [nz1, nz2, nz3]
  refine tk 8 68 (.int .i64 (y76)) rfl rfl (fun _ hw => r_load hw rfl Tryd.underlying3 rfl rfl rfl) (hm160.at 1 rfl) ?_
  simp only [nz1, nz2, nz3]
  refine tk 9 69 (.pointer (some ⟨g40, 3, none⟩)) rfl rfl (fun _ hw => Sx.r_ix g40 3 (by decide) Tryd.underlying51 sz_3 rfl rfl rfl) (hm160.at 1 rfl) ?_
  simp only [nz1, nz2, nz3]
  refine tk 10 70 (.int .i64 (y77)) rfl rfl (fun _ hw => r_load hw rfl Tryd.underlying3 rfl rfl rfl) (hm160.at 1 rfl) ?_
  simp only [nz1, nz2, nz3]
  refine tk 11 71 (.pointer (some ⟨g40, 4, none⟩)) rfl rfl (fun _ hw => Sx.r_ix g40 4 (by decide) Tryd.underlying51 sz_3 rfl rfl rfl) (hm160.at 1 rfl) ?_
  simp only [nz1, nz2, nz3]
  refine tk 12 72 (.int .i64 (y78)) rfl rfl (fun _ hw => r_load hw rfl Tryd.underlying3 rfl rfl rfl) (hm160.at 1 rfl) ?_
  simp only [nz1, nz2, nz3]
  refine tk 13 73 (.string (tx s)) rfl rfl (fun _ hw => run_mv rfl rfl) (hm160.at 1 rfl) ?_
  simp only [nz1, nz2, nz3]
  refine tk 14 74 (.int .u8 ((by' s 156 : Nat) : Int)) rfl rfl (fun _ hw => t_char s 156 (by omega) Tryd.underlying9 rfl rfl rfl) (hm160.at 1 rfl) ?_
  simp only [nz1, nz2, nz3]
  refine tk 15 75 (.string (tx s)) rfl rfl (fun _ hw => run_mv rfl rfl) (hm160.at 1 rfl) ?_
  simp only [nz1, nz2, nz3]
  refine tk 16 76 (.string (tx ((s.take 257).drop 157))) rfl rfl (fun _ hw => t_cut s 157 257 (by omega) (by omega) Tryd.underlying9 rfl rfl rfl rfl) (hm160.at 1 rfl) ?_
  simp only [nz1, nz2, nz3]
  refine tk 18 78 (.string (tx s)) rfl rfl (fun _ hw => run_mv rfl rfl) (hm160.at 1 rfl) ?_
  simp only [nz1, nz2, nz3]
  refine tk 19 79 (.string (tx ((s.take 500).drop 345))) rfl rfl (fun _ hw => t_cut s 345 500 (by omega) (by omega) Tryd.underlying9 rfl rfl rfl rfl) (hm160.at 1 rfl) ?_
  simp only [nz1, nz2, nz3]
  refine one_ready 2 (by kernel_rfl) ?_
  refine opd rfl (wanted_none rfl) (m_call hm160 62 (.string (tx (hcut_m (s.take 100)))) rfl (run_hcut rfl rfl) (hcut_any (s.take 100)  _  (Laid.below hT hm160.below) (by first | omega | assumption | (rw [List.length_drop]; omega) | (rw [List.length_take]; omega) | (rw [List.length_drop, List.length_take]; omega) | (simp; done) | (simp; omega) | (simp only [List.length_append, List.length_cons, List.length_nil]; omega) | (simp only [List.length_append, List.length_cons, List.length_nil] at *; omega) | decide)) (fun w162 (hm163 : Mm none (fun _ => True) w w162 [.blk g4 #[.string (tx y65), .int .i64 ((y66 : Nat) : Int), .int .i64 ((y67 : Nat) : Int), .int .i64 ((y68 : Nat) : Int), .int .i64 ((y69 : Nat) : Int), .int .i64 ((y70 : Nat) : Int), .int .u8 ((y71.toNat : Nat) : Int), .string (tx y72), .string (tx y73)] 23, .blk g40 #[.int .i64 (y74), .int .i64 (y75), .int .i64 (y76), .int .i64 (y77), .int .i64 (y78)] 51]) => ?_))
  refine ⟨hm163.at 1 rfl, ?_⟩
  simp only [nz1, nz2, nz3]
  refine one_ready 17 (by kernel_rfl) ?_
  refine opd rfl (wanted_none rfl) (m_call hm163 77 (.string (tx (hcut_m ((s.take 257).drop 157)))) rfl (run_hcut rfl rfl) (hcut_any ((s.take 257).drop 157)  _  (Laid.below hT hm163.below) (by first | omega | assumption | (rw [List.length_drop]; omega) | (rw [List.length_take]; omega) | (rw [List.length_drop, List.length_take]; omega) | (simp; done) | (simp; omega) | (simp only [List.length_append, List.length_cons, List.length_nil]; omega) | (simp only [List.length_append, List.length_cons, List.length_nil] at *; omega) | decide)) (fun w164 (hm165 : Mm none (fun _ => True) w w164 [.blk g4 #[.string (tx y65), .int .i64 ((y66 : Nat) : Int), .int .i64 ((y67 : Nat) : Int), .int .i64 ((y68 : Nat) : Int), .int .i64 ((y69 : Nat) : Int), .int .i64 ((y70 : Nat) : Int), .int .u8 ((y71.toNat : Nat) : Int), .string (tx y72), .string (tx y73)] 23, .blk g40 #[.int .i64 (y74), .int .i64 (y75), .int .i64 (y76), .int .i64 (y77), .int .i64 (y78)] 51]) => ?_))
  refine ⟨hm165.at 1 rfl, ?_⟩
  simp only [nz1, nz2, nz3]
  refine one_ready 20 (by kernel_rfl) ?_
  refine opd rfl (wanted_none rfl) (m_call hm165 80 (.string (tx (hcut_m ((s.take 500).drop 345)))) rfl (run_hcut rfl rfl) (hcut_any ((s.take 500).drop 345)  _  (Laid.below hT hm165.below) (by first | omega | assumption | (rw [List.length_drop]; omega) | (rw [List.length_take]; omega) | (rw [List.length_drop, List.length_take]; omega) | (simp; done) | (simp; omega) | (simp only [List.length_append, List.length_cons, List.length_nil]; omega) | (simp only [List.length_append, List.length_cons, List.length_nil] at *; omega) | decide)) (fun w166 (hm167 : Mm none (fun _ => True) w w166 [.blk g4 #[.string (tx y65), .int .i64 ((y66 : Nat) : Int), .int .i64 ((y67 : Nat) : Int), .int .i64 ((y68 : Nat) : Int), .int .i64 ((y69 : Nat) : Int), .int .i64 ((y70 : Nat) : Int), .int .u8 ((y71.toNat : Nat) : Int), .string (tx y72), .string (tx y73)] 23, .blk g40 #[.int .i64 (y74), .int .i64 (y75), .int .i64 (y76), .int .i64 (y77), .int .i64 (y78)] 51]) => ?_))
  refine ⟨hm167.at 1 rfl, ?_⟩
  simp only [nz1, nz2, nz3]
  refine tk 21 81 (.agg #[.string (tx (hcut_m (s.take 100))), .int .i64 (y74), .int .i64 (y75), .int .i64 (y76), .int .i64 (y77), .int .i64 (y78), .int .u8 ((by' s 156 : Nat) : Int), .string (tx (hcut_m ((s.take 257).drop 157))), .string (tx (hcut_m ((s.take 500).drop 345)))]) rfl rfl (fun _ hw => by unfold execOp; go_simp; try (first | rfl | (repeat' (first | rfl | apply And.intro)))) (hm167.at 1 rfl) ?_
  simp only [nz1, nz2, nz3]
  refine one_ready 22 (by kernel_rfl) ?_
  refine opd rfl (wanted_none rfl) (m_store 0 23 _ _ 0 (.agg #[.string (tx (hcut_m (s.take 100))), .int .i64 (y74), .int .i64 (y75), .int .i64 (y76), .int .i64 (y77), .int .i64 (y78), .int .u8 ((by' s 156 : Nat) : Int), .string (tx (hcut_m ((s.take 257).drop 157))), .string (tx (hcut_m ((s.take 500).drop 345)))]) (old := #[.string (tx y65), .int .i64 ((y66 : Nat) : Int), .int .i64 ((y67 : Nat) : Int), .int .i64 ((y68 : Nat) : Int), .int .i64 ((y69 : Nat) : Int), .int .i64 ((y70 : Nat) : Int), .int .u8 ((y71.toNat : Nat) : Int), .string (tx y72), .string (tx y73)]) (new := #[.string (tx (hcut_m (s.take 100))), .int .i64 (y74), .int .i64 (y75), .int .i64 (y76), .int .i64 (y77), .int .i64 (y78), .int .u8 ((by' s 156 : Nat) : Int), .string (tx (hcut_m ((s.take 257).drop 157))), .string (tx (hcut_m ((s.take 500).drop 345)))]) hm167 rfl rfl rfl rfl rfl (by exact sz_23) (show 0 + 9 ≤ 9 from by decide) (by simp [Value.cells, Value.oneCell']) rfl (fun w168 (hm169 : Mm none (fun _ => True) w w168 [.blk g4 #[.string (tx (hcut_m (s.take 100))), .int .i64 (y74), .int .i64 (y75), .int .i64 (y76), .int .i64 (y77), .int .i64 (y78), .int .u8 ((by' s 156 : Nat) : Int), .string (tx (hcut_m ((s.take 257).drop 157))), .string (tx (hcut_m ((s.take 500).drop 345)))] 23, .blk g40 #[.int .i64 (y74), .int .i64 (y75), .int .i64 (y76), .int .i64 (y77), .int .i64 (y78)] 51]) => ?_))
  refine ⟨hm169.at 1 rfl, ?_⟩
  refine one_ready 23 (by kernel_rfl) ?_
  refine opd rfl (wanted_none rfl) (w_value 3 (.int .i64 0) rfl (run_as rfl rfl) ⟨hm169.at 1 rfl, ?_⟩)
  simp only [nz1, nz2, nz3]
  refine wpAnyH_done (by kernel_rfl) ?_ _
  refine then_n (hK159 _ _ ?_)
  refine wp_ret ?_
  have he170 : hdecode_m s = ((Hdr.mk (hcut_m (s.take 100)) y74 y75 y76 y77 y78 (s.getD 156 0) (hcut_m ((s.take 257).drop 157)) (hcut_m ((s.take 500).drop 345))), 0) := (hq158.trans (show hdecode_m_k0 s y63 y64 y65 y66 y67 y68 y69 y70 y71 y72 y73 y74 y75 y76 y77 y78 = ((Hdr.mk (hcut_m (s.take 100)) y74 y75 y76 y77 y78 (s.getD 156 0) (hcut_m ((s.take 257).drop 157)) (hcut_m ((s.take 500).drop 345))), 0) from by unfold hdecode_m_k0; rfl))
  exact ⟨rfl, .tuple #[.agg #[.string (tx (hcut_m (s.take 100))), .int .i64 (y74), .int .i64 (y75), .int .i64 (y76), .int .i64 (y77), .int .i64 (y78), .int .u8 ((by' s 156 : Nat) : Int), .string (tx (hcut_m ((s.take 257).drop 157))), .string (tx (hcut_m ((s.take 500).drop 345)))], .int .i64 0], Mem.res_ct rfl rfl (hm169.at 0 rfl) Tryd.underlying23 rfl (by exact sz_23) rfl, ⟨by (rw [he170]; try rfl), hm169.below⟩⟩
theorem run_hdecode {o : Oper} {a : Act} {w : World} {x0 : Operand} {v0 : Value} (ho : o.op = .call { callee := .value (.func 16), args := #[x0], argTypes := #[9] }) (h0 : a.eval x0 = v0) :
    (execOp a.eval o).run Tryd.prog w = .ok (.enter 16 #[v0]) w := by
  unfold execOp
  simp only [ho]
  have hf : a.eval (.func 16) = .func (.func 16) #[] #[] := rfl
  generalize a.eval = f at *
  go_simp
end Go.Proofs.YtglnifckngcpkaaDoor.Hd
