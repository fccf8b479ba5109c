/- Layer 9: the numbers as the document says. -/
import Derived.Test.YtglnifckngcpkaaDoorHdP
namespace Go.Proofs.YtglnifckngcpkaaDoor.Hd
open Go.RowKit
open Go.Proofs.YtglnifckngcpkaaDoor.Sym Go.Proofs.YtglnifckngcpkaaDoor.Mem
open Go.Proofs.YtglnifckngcpkaaDoor.Sx hiding Mm m_alloc m_store m_put m_call m_callx m_make m_append r_string r_ixS
set_option linter.unusedVariables false
attribute [local irreducible] rput_m
attribute [local irreducible] wpList Oper.wp

def rnums_m_b0 (h : Hdr) (rec : Nat × (List UInt8) × (List UInt8) × (List UInt8) × (List UInt8) × (List UInt8) × (List UInt8) × (List UInt8) × (List UInt8) × (List UInt8) × (List UInt8) → Sum (Nat × (List UInt8) × (List UInt8) × (List UInt8) × (List UInt8) × (List UInt8) × (List UInt8) × (List UInt8) × (List UInt8) × (List UInt8) × (List UInt8)) (A56 × Int)) (x26 : Nat) (x27 : List UInt8) (x28 : List UInt8) (x29 : List UInt8) (x30 : List UInt8) (x31 : List UInt8) (x32 : List UInt8) (x33 : List UInt8) (x34 : List UInt8) (x35 : List UInt8) (x36 : List UInt8) : Sum (Nat × (List UInt8) × (List UInt8) × (List UInt8) × (List UInt8) × (List UInt8) × (List UInt8) × (List UInt8) × (List UInt8) × (List UInt8) × (List UInt8)) (A56 × Int) :=
  if x26 < 5 then
    if x26 = 0 then
      if ¬ (rput_m h.mode 8).2 = 0 then
        .inr ((A56.mk x32 x33 x34 x35 x36), (rput_m h.mode 8).2)
      else
        rec ((x26 + 1), x27, x28, x29, x30, x31, ((rput_m h.mode 8).1), x33, x34, x35, x36)
    else
      if x26 = 1 then
        if ¬ (rput_m h.uid 8).2 = 0 then
          .inr ((A56.mk x32 x33 x34 x35 x36), (rput_m h.uid 8).2)
        else
          rec ((x26 + 1), x27, x28, x29, x30, x31, x32, ((rput_m h.uid 8).1), x34, x35, x36)
      else
        if x26 = 2 then
          if ¬ (rput_m h.gid 8).2 = 0 then
            .inr ((A56.mk x32 x33 x34 x35 x36), (rput_m h.gid 8).2)
          else
            rec ((x26 + 1), x27, x28, x29, x30, x31, x32, x33, ((rput_m h.gid 8).1), x35, x36)
        else
          if x26 = 3 then
            if ¬ (rput_m h.size 12).2 = 0 then
              .inr ((A56.mk x32 x33 x34 x35 x36), (rput_m h.size 12).2)
            else
              rec ((x26 + 1), x27, x28, x29, x30, x31, x32, x33, x34, ((rput_m h.size 12).1), x36)
          else
            if ¬ (rput_m h.time 12).2 = 0 then
              .inr ((A56.mk x32 x33 x34 x35 x36), (rput_m h.time 12).2)
            else
              rec ((x26 + 1), x27, x28, x29, x30, x31, x32, x33, x34, x35, ((rput_m h.time 12).1))
  else
    .inl (x26, x27, x28, x29, x30, x31, x32, x33, x34, x35, x36)
def rnums_m_l0 (h : Hdr) : Nat → Nat × (List UInt8) × (List UInt8) × (List UInt8) × (List UInt8) × (List UInt8) × (List UInt8) × (List UInt8) × (List UInt8) × (List UInt8) × (List UInt8) → Sum (Nat × (List UInt8) × (List UInt8) × (List UInt8) × (List UInt8) × (List UInt8) × (List UInt8) × (List UInt8) × (List UInt8) × (List UInt8) × (List UInt8)) (A56 × Int)
  | 0, zz => .inl zz
  | nq + 1, zz => rnums_m_b0 h (rnums_m_l0 h nq) zz.1 zz.2.1 zz.2.2.1 zz.2.2.2.1 zz.2.2.2.2.1 zz.2.2.2.2.2.1 zz.2.2.2.2.2.2.1 zz.2.2.2.2.2.2.2.1 zz.2.2.2.2.2.2.2.2.1 zz.2.2.2.2.2.2.2.2.2.1 zz.2.2.2.2.2.2.2.2.2.2

def rnums_m_k0 (h : Hdr) (y40 : Nat) (y41 : List UInt8) (y42 : List UInt8) (y43 : List UInt8) (y44 : List UInt8) (y45 : List UInt8) (y46 : List UInt8) (y47 : List UInt8) (y48 : List UInt8) (y49 : List UInt8) (y50 : List UInt8) : A56 × Int :=
  ((A56.mk y46 y47 y48 y49 y50), 0)

def rnums_m (h : Hdr) : A56 × Int :=
  fin (rnums_m_l0 h ((5 - 0) + 1) (0, ([]), ([]), ([]), ([]), ([]), ([]), ([]), ([]), ([]), ([]))) (fun r => r) (fun zz => rnums_m_k0 h zz.1 zz.2.1 zz.2.2.1 zz.2.2.2.1 zz.2.2.2.2.1 zz.2.2.2.2.2.1 zz.2.2.2.2.2.2.1 zz.2.2.2.2.2.2.2.1 zz.2.2.2.2.2.2.2.2.1 zz.2.2.2.2.2.2.2.2.2.1 zz.2.2.2.2.2.2.2.2.2.2)

set_option maxHeartbeats 4000000 in
set_option maxRecDepth 100000 in
theorem rnums_any (h : Hdr) (w : World)  (hp0 : -9223372036854775808 ≤ h.mode) (hp1 : h.mode ≤ 9223372036854775807) (hp2 : -9223372036854775808 ≤ h.uid) (hp3 : h.uid ≤ 9223372036854775807) (hp4 : -9223372036854775808 ≤ h.gid) (hp5 : h.gid ≤ 9223372036854775807) (hp6 : -9223372036854775808 ≤ h.size) (hp7 : h.size ≤ 9223372036854775807) (hp8 : -9223372036854775808 ≤ h.time) (hp9 : h.time ≤ 9223372036854775807) : Calls Tryd.prog 39 #[.agg #[.string (tx h.name), .int .i64 (h.mode), .int .i64 (h.uid), .int .i64 (h.gid), .int .i64 (h.size), .int .i64 (h.time), .int .u8 ((h.flag.toNat : Nat) : Int), .string (tx h.link), .string (tx h.pfx)]] w (fun e w' => e = .returned (.tuple #[.agg #[.string (tx (((rnums_m h).1).i0)), .string (tx (((rnums_m h).1).i1)), .string (tx (((rnums_m h).1).i2)), .string (tx (((rnums_m h).1).i3)), .string (tx (((rnums_m h).1).i4))], .int .i64 ((rnums_m h).2)]) ∧ Below w.heap.size w w') := by
  go_enter Tryd.func39, Tryd.ntmps39
  have hm00 := Mm.nil none (fun _ => True) w
  have hm0 := hm00
  refine wp_seq_k (fun K1 hK1 => ?_)
  refine wp_region_lit ?_
  refine lst rfl (m_alloc (c := #[.string (tx h.name), .int .i64 (h.mode), .int .i64 (h.uid), .int .i64 (h.gid), .int .i64 (h.size), .int .i64 (h.time), .int .u8 ((h.flag.toNat : Nat) : Int), .string (tx h.link), .string (tx h.pfx)]) (T := 23) hm0 1 rfl (run_box rfl rfl) (fun g4 w2 (hm3 : Mm none (fun _ => True) w w2 [.blk g4 #[.string (tx h.name), .int .i64 (h.mode), .int .i64 (h.uid), .int .i64 (h.gid), .int .i64 (h.size), .int .i64 (h.time), .int .u8 ((h.flag.toNat : Nat) : Int), .string (tx h.link), .string (tx h.pfx)] 23]) => ?_))
  simp only [nz1, nz2, nz3]
  refine lst rfl (m_alloc (c := #[.string (tx ([])), .string (tx ([])), .string (tx ([])), .string (tx ([])), .string (tx ([]))]) (T := 56) hm3 2 rfl (by unfold execOp; go_simp; try rfl) (fun g7 w5 (hm6 : Mm none (fun _ => True) w w5 [.blk g4 #[.string (tx h.name), .int .i64 (h.mode), .int .i64 (h.uid), .int .i64 (h.gid), .int .i64 (h.size), .int .i64 (h.time), .int .u8 ((h.flag.toNat : Nat) : Int), .string (tx h.link), .string (tx h.pfx)] 23, .blk g7 #[.string (tx ([])), .string (tx ([])), .string (tx ([])), .string (tx ([])), .string (tx ([]))] 56]) => ?_))
  simp only [nz1, nz2, nz3]
  refine lvw 3 (.int .i64 0) rfl rfl (run_as rfl rfl) ?_
  simp only [nz1, nz2, nz3]
  refine wpList_nil ?_
  refine then_n (hK1 _ _ ?_)
  refine wp_seq_k (fun K8 hK8 => ?_)
  refine wp_region_lit ?_
  refine lst rfl (m_alloc (c := #[.string (tx ([])), .string (tx ([])), .string (tx ([])), .string (tx ([])), .string (tx ([]))]) (T := 56) hm6 4 rfl (by unfold execOp; go_simp; try rfl) (fun g11 w9 (hm10 : Mm none (fun _ => True) w w9 [.blk g4 #[.string (tx h.name), .int .i64 (h.mode), .int .i64 (h.uid), .int .i64 (h.gid), .int .i64 (h.size), .int .i64 (h.time), .int .u8 ((h.flag.toNat : Nat) : Int), .string (tx h.link), .string (tx h.pfx)] 23, .blk g7 #[.string (tx ([])), .string (tx ([])), .string (tx ([])), .string (tx ([])), .string (tx ([]))] 56, .blk g11 #[.string (tx ([])), .string (tx ([])), .string (tx ([])), .string (tx ([])), .string (tx ([]))] 56]) => ?_))
  simp only [nz1, nz2, nz3]
  refine wpList_nil ?_
  refine then_n (hK8 _ _ ?_)
  refine wp_seq_k (fun K12 hK12 => ?_)
  refine wp_region_lit ?_
  refine lvw 10 (.pointer (some ⟨g4, 1, none⟩)) rfl rfl (r_fa23_1 g4 0 rfl rfl) ?_
  simp only [nz1, nz2, nz3]
  refine lvw 11 (.int .i64 (h.mode)) rfl rfl (r_load (hm10.at 0 rfl) rfl Tryd.underlying3 rfl rfl rfl) ?_
  simp only [nz1, nz2, nz3]
  refine lvw 12 (.pointer (some ⟨g4, 2, none⟩)) rfl rfl (r_fa23_2 g4 0 rfl rfl) ?_
  simp only [nz1, nz2, nz3]
  refine lvw 13 (.int .i64 (h.uid)) rfl rfl (r_load (hm10.at 0 rfl) rfl Tryd.underlying3 rfl rfl rfl) ?_
  simp only [nz1, nz2, nz3]
  refine lvw 14 (.pointer (some ⟨g4, 3, none⟩)) rfl rfl (r_fa23_3 g4 0 rfl rfl) ?_
  simp only [nz1, nz2, nz3]
  refine lvw 15 (.int .i64 (h.gid)) rfl rfl (r_load (hm10.at 0 rfl) rfl Tryd.underlying3 rfl rfl rfl) ?_
  simp only [nz1, nz2, nz3]
  refine lvw 16 (.pointer (some ⟨g4, 4, none⟩)) rfl rfl (r_fa23_4 g4 0 rfl rfl) ?_
  simp only [nz1, nz2, nz3]
  refine lvw 17 (.int .i64 (h.size)) rfl rfl (r_load (hm10.at 0 rfl) rfl Tryd.underlying3 rfl rfl rfl) ?_
  simp only [nz1, nz2, nz3]
  refine lvw 18 (.pointer (some ⟨g4, 5, none⟩)) rfl rfl (r_fa23_5 g4 0 rfl rfl) ?_
  simp only [nz1, nz2, nz3]
  refine lvw 19 (.int .i64 (h.time)) rfl rfl (r_load (hm10.at 0 rfl) rfl Tryd.underlying3 rfl rfl rfl) ?_
  simp only [nz1, nz2, nz3]
  refine lvw 20 (.agg #[.int .i64 (h.mode), .int .i64 (h.uid), .int .i64 (h.gid), .int .i64 (h.size), .int .i64 (h.time)]) rfl rfl (by unfold execOp; go_simp; try (first | rfl | (repeat' (first | rfl | apply And.intro)))) ?_
  simp only [nz1, nz2, nz3]
  refine lst rfl (m_alloc (c := #[.int .i64 0, .int .i64 0, .int .i64 0, .int .i64 0, .int .i64 0]) (T := 51) hm10 5 rfl (by unfold execOp; go_simp; try rfl) (fun g15 w13 (hm14 : Mm none (fun _ => True) w w13 [.blk g4 #[.string (tx h.name), .int .i64 (h.mode), .int .i64 (h.uid), .int .i64 (h.gid), .int .i64 (h.size), .int .i64 (h.time), .int .u8 ((h.flag.toNat : Nat) : Int), .string (tx h.link), .string (tx h.pfx)] 23, .blk g7 #[.string (tx ([])), .string (tx ([])), .string (tx ([])), .string (tx ([])), .string (tx ([]))] 56, .blk g11 #[.string (tx ([])), .string (tx ([])), .string (tx ([])), .string (tx ([])), .string (tx ([]))] 56, .blk g15 #[.int .i64 0, .int .i64 0, .int .i64 0, .int .i64 0, .int .i64 0] 51]) => ?_))
  simp only [nz1, nz2, nz3]
  refine lst rfl (m_store 3 51 _ _ 0 (.agg #[.int .i64 (h.mode), .int .i64 (h.uid), .int .i64 (h.gid), .int .i64 (h.size), .int .i64 (h.time)]) (old := #[.int .i64 0, .int .i64 0, .int .i64 0, .int .i64 0, .int .i64 0]) (new := #[.int .i64 (h.mode), .int .i64 (h.uid), .int .i64 (h.gid), .int .i64 (h.size), .int .i64 (h.time)]) hm14 rfl rfl rfl rfl rfl (by exact sz_51) (show 0 + 5 ≤ 5 from by decide) (by simp [Value.cells, Value.oneCell']) rfl (fun w16 (hm17 : Mm none (fun _ => True) w w16 [.blk g4 #[.string (tx h.name), .int .i64 (h.mode), .int .i64 (h.uid), .int .i64 (h.gid), .int .i64 (h.size), .int .i64 (h.time), .int .u8 ((h.flag.toNat : Nat) : Int), .string (tx h.link), .string (tx h.pfx)] 23, .blk g7 #[.string (tx ([])), .string (tx ([])), .string (tx ([])), .string (tx ([])), .string (tx ([]))] 56, .blk g11 #[.string (tx ([])), .string (tx ([])), .string (tx ([])), .string (tx ([])), .string (tx ([]))] 56, .blk g15 #[.int .i64 (h.mode), .int .i64 (h.uid), .int .i64 (h.gid), .int .i64 (h.size), .int .i64 (h.time)] 51]) => ?_))
  refine wpList_nil ?_
  refine then_n (hK12 _ _ ?_)
  refine wp_seq_k (fun K18 hK18 => ?_)
  refine wp_region_lit ?_
  refine lvw 21 (.agg #[.int .i64 8, .int .i64 8, .int .i64 8, .int .i64 12, .int .i64 12]) rfl rfl (by unfold execOp; go_simp; try (first | rfl | (repeat' (first | rfl | apply And.intro)))) ?_
  simp only [nz1, nz2, nz3]
  refine lst rfl (m_alloc (c := #[.int .i64 0, .int .i64 0, .int .i64 0, .int .i64 0, .int .i64 0]) (T := 51) hm17 6 rfl (by unfold execOp; go_simp; try rfl) (fun g21 w19 (hm20 : Mm none (fun _ => True) w w19 [.blk g4 #[.string (tx h.name), .int .i64 (h.mode), .int .i64 (h.uid), .int .i64 (h.gid), .int .i64 (h.size), .int .i64 (h.time), .int .u8 ((h.flag.toNat : Nat) : Int), .string (tx h.link), .string (tx h.pfx)] 23, .blk g7 #[.string (tx ([])), .string (tx ([])), .string (tx ([])), .string (tx ([])), .string (tx ([]))] 56, .blk g11 #[.string (tx ([])), .string (tx ([])), .string (tx ([])), .string (tx ([])), .string (tx ([]))] 56, .blk g15 #[.int .i64 (h.mode), .int .i64 (h.uid), .int .i64 (h.gid), .int .i64 (h.size), .int .i64 (h.time)] 51, .blk g21 #[.int .i64 0, .int .i64 0, .int .i64 0, .int .i64 0, .int .i64 0] 51]) => ?_))
  simp only [nz1, nz2, nz3]
  refine lst rfl (m_store 4 51 _ _ 0 (.agg #[.int .i64 8, .int .i64 8, .int .i64 8, .int .i64 12, .int .i64 12]) (old := #[.int .i64 0, .int .i64 0, .int .i64 0, .int .i64 0, .int .i64 0]) (new := #[.int .i64 8, .int .i64 8, .int .i64 8, .int .i64 12, .int .i64 12]) hm20 rfl rfl rfl rfl rfl (by exact sz_51) (show 0 + 5 ≤ 5 from by decide) (by simp [Value.cells, Value.oneCell']) rfl (fun w22 (hm23 : Mm none (fun _ => True) w w22 [.blk g4 #[.string (tx h.name), .int .i64 (h.mode), .int .i64 (h.uid), .int .i64 (h.gid), .int .i64 (h.size), .int .i64 (h.time), .int .u8 ((h.flag.toNat : Nat) : Int), .string (tx h.link), .string (tx h.pfx)] 23, .blk g7 #[.string (tx ([])), .string (tx ([])), .string (tx ([])), .string (tx ([])), .string (tx ([]))] 56, .blk g11 #[.string (tx ([])), .string (tx ([])), .string (tx ([])), .string (tx ([])), .string (tx ([]))] 56, .blk g15 #[.int .i64 (h.mode), .int .i64 (h.uid), .int .i64 (h.gid), .int .i64 (h.size), .int .i64 (h.time)] 51, .blk g21 #[.int .i64 8, .int .i64 8, .int .i64 8, .int .i64 12, .int .i64 12] 51]) => ?_))
  refine wpList_nil ?_
  refine then_n (hK18 _ _ ?_)
  refine wp_seq_k (fun K24 hK24 => ?_)
  refine wp_seq_k (fun K25 hK25 => ?_)
  refine wp_region_lit ?_
  refine lvw 7 (.int .i64 0) rfl rfl (run_as rfl rfl) ?_
  simp only [nz1, nz2, nz3]
  refine wpList_nil ?_
  refine then_n (hK25 _ _ ?_)
  refine wp_cutK (fun a' w' => ∃ (y40 : Nat) (y41 : List UInt8) (y42 : List UInt8) (y43 : List UInt8) (y44 : List UInt8) (y45 : List UInt8) (y46 : List UInt8) (y47 : List UInt8) (y48 : List UInt8) (y49 : List UInt8) (y50 : List UInt8) (yu0 : Nat → Value), rnums_m_l0 h ((5 - 0) + 1) (0, ([]), ([]), ([]), ([]), ([]), ([]), ([]), ([]), ([]), ([])) = .inl (y40, y41, y42, y43, y44, y45, y46, y47, y48, y49, y50) ∧ (y40 ≤ 5) ∧ a' = ⟨#[.agg #[.string (tx h.name), .int .i64 (h.mode), .int .i64 (h.uid), .int .i64 (h.gid), .int .i64 (h.size), .int .i64 (h.time), .int .u8 ((h.flag.toNat : Nat) : Int), .string (tx h.link), .string (tx h.pfx)], .pointer (some ⟨g4, 0, none⟩), .pointer (some ⟨g7, 0, none⟩), yu0 0, .pointer (some ⟨g11, 0, none⟩), .pointer (some ⟨g15, 0, none⟩), .pointer (some ⟨g21, 0, none⟩), .int .i64 ((y40 : Nat) : Int), yu0 1, yu0 2, .pointer (some ⟨g4, 1, none⟩), .int .i64 (h.mode), .pointer (some ⟨g4, 2, none⟩), .int .i64 (h.uid), .pointer (some ⟨g4, 3, none⟩), .int .i64 (h.gid), .pointer (some ⟨g4, 4, none⟩), .int .i64 (h.size), .pointer (some ⟨g4, 5, none⟩), .int .i64 (h.time), .agg #[.int .i64 (h.mode), .int .i64 (h.uid), .int .i64 (h.gid), .int .i64 (h.size), .int .i64 (h.time)], .agg #[.int .i64 8, .int .i64 8, .int .i64 8, .int .i64 12, .int .i64 12], yu0 3, yu0 4, yu0 5, yu0 6, yu0 7, yu0 8, yu0 9, yu0 10, yu0 11, yu0 12, yu0 13, yu0 14, yu0 15, yu0 16, yu0 17, yu0 18, yu0 19, yu0 20, yu0 21, yu0 22, yu0 23, undef], []⟩ ∧ Mm none (fun _ => True) w w' [.blk g4 #[.string (tx h.name), .int .i64 (h.mode), .int .i64 (h.uid), .int .i64 (h.gid), .int .i64 (h.size), .int .i64 (h.time), .int .u8 ((h.flag.toNat : Nat) : Int), .string (tx h.link), .string (tx h.pfx)] 23, .blk g7 #[.string (tx y41), .string (tx y42), .string (tx y43), .string (tx y44), .string (tx y45)] 56, .blk g11 #[.string (tx y46), .string (tx y47), .string (tx y48), .string (tx y49), .string (tx y50)] 56, .blk g15 #[.int .i64 (h.mode), .int .i64 (h.uid), .int .i64 (h.gid), .int .i64 (h.size), .int .i64 (h.time)] 51, .blk g21 #[.int .i64 8, .int .i64 8, .int .i64 8, .int .i64 12, .int .i64 12] 51]) ?_ ?_
  · refine wp_block ?_
    refine wp_loop_n (fun n' a' w' => ∃ (n37 : Nat) (x26 : Nat) (x27 : List UInt8) (x28 : List UInt8) (x29 : List UInt8) (x30 : List UInt8) (x31 : List UInt8) (x32 : List UInt8) (x33 : List UInt8) (x34 : List UInt8) (x35 : List UInt8) (x36 : List UInt8) (u0 : Nat → Value), n' = n37 ∧ (5 - x26) < n37 ∧ rnums_m_l0 h ((5 - 0) + 1) (0, ([]), ([]), ([]), ([]), ([]), ([]), ([]), ([]), ([]), ([])) = rnums_m_l0 h n37 (x26, x27, x28, x29, x30, x31, x32, x33, x34, x35, x36) ∧ (x26 ≤ 5) ∧ a' = ⟨#[.agg #[.string (tx h.name), .int .i64 (h.mode), .int .i64 (h.uid), .int .i64 (h.gid), .int .i64 (h.size), .int .i64 (h.time), .int .u8 ((h.flag.toNat : Nat) : Int), .string (tx h.link), .string (tx h.pfx)], .pointer (some ⟨g4, 0, none⟩), .pointer (some ⟨g7, 0, none⟩), u0 0, .pointer (some ⟨g11, 0, none⟩), .pointer (some ⟨g15, 0, none⟩), .pointer (some ⟨g21, 0, none⟩), .int .i64 ((x26 : Nat) : Int), u0 1, u0 2, .pointer (some ⟨g4, 1, none⟩), .int .i64 (h.mode), .pointer (some ⟨g4, 2, none⟩), .int .i64 (h.uid), .pointer (some ⟨g4, 3, none⟩), .int .i64 (h.gid), .pointer (some ⟨g4, 4, none⟩), .int .i64 (h.size), .pointer (some ⟨g4, 5, none⟩), .int .i64 (h.time), .agg #[.int .i64 (h.mode), .int .i64 (h.uid), .int .i64 (h.gid), .int .i64 (h.size), .int .i64 (h.time)], .agg #[.int .i64 8, .int .i64 8, .int .i64 8, .int .i64 12, .int .i64 12], u0 3, u0 4, u0 5, u0 6, u0 7, u0 8, u0 9, u0 10, u0 11, u0 12, u0 13, u0 14, u0 15, u0 16, u0 17, u0 18, u0 19, u0 20, u0 21, u0 22, u0 23, undef], []⟩ ∧ Mm none (fun _ => True) w w' [.blk g4 #[.string (tx h.name), .int .i64 (h.mode), .int .i64 (h.uid), .int .i64 (h.gid), .int .i64 (h.size), .int .i64 (h.time), .int .u8 ((h.flag.toNat : Nat) : Int), .string (tx h.link), .string (tx h.pfx)] 23, .blk g7 #[.string (tx x27), .string (tx x28), .string (tx x29), .string (tx x30), .string (tx x31)] 56, .blk g11 #[.string (tx x32), .string (tx x33), .string (tx x34), .string (tx x35), .string (tx x36)] 56, .blk g15 #[.int .i64 (h.mode), .int .i64 (h.uid), .int .i64 (h.gid), .int .i64 (h.size), .int .i64 (h.time)] 51, .blk g21 #[.int .i64 8, .int .i64 8, .int .i64 8, .int .i64 12, .int .i64 12] 51]) ⟨((5 - 0) + 1), 0, ([]), ([]), ([]), ([]), ([]), ([]), ([]), ([]), ([]), ([]), (fun qq => List.getD [.int .i64 0, undef, undef, undef, undef, undef, undef, undef, undef, undef, undef, undef, undef, undef, undef, undef, undef, undef, undef, undef, undef, undef, undef, undef] qq undef), rfl, Nat.lt_succ_self _, rfl, (by first | omega | (simp; done) | (simp; omega) | (simp at *; omega)), rfl, hm23⟩ ?_
    rintro n37 _ w52 ⟨_, x26, x27, x28, x29, x30, x31, x32, x33, x34, x35, x36, u0, rfl, hl56, hi39, hnb, rfl, hm53⟩ R54 hR54
    obtain ⟨k38, rfl⟩ : ∃ k, n37 = k + 1 := ⟨n37 - 1, by omega⟩
    refine wp_seq_k (fun K57 hK57 => ?_)
    refine wp_seq_k (fun K58 hK58 => ?_)
    refine wp_region_lit ?_
    refine lvw 22 (.int .i64 ((x26 : Nat) : Int)) rfl rfl (run_mv rfl rfl) ?_
    simp only [nz1, nz2, nz3]
    refine lvw 23 (.bool (decide (x26 < 5))) rfl rfl (r_lss x26 5 rfl rfl rfl) ?_
    simp only [nz1, nz2, nz3]
    refine wpList_nil ?_
    refine then_n (hK58 _ _ ?_)
    refine cond_d (x26 < 5) rfl (fun hc59 => ?_) (fun hc59 => ?_)
    rotate_left
    · refine wp_exit ?_
      refine then_x ?_
      refine then_x ?_
      refine blk_x ?_
      refine then_n ?_
      exact ⟨x26, x27, x28, x29, x30, x31, x32, x33, x34, x35, x36, (fun qq => List.getD [u0 0, u0 1, u0 2, .int .i64 ((x26 : Nat) : Int), .bool (decide (x26 < 5)), u0 5, u0 6, u0 7, u0 8, u0 9, u0 10, u0 11, u0 12, u0 13, u0 14, u0 15, u0 16, u0 17, u0 18, u0 19, u0 20, u0 21, u0 22, u0 23] qq undef), (hi39.trans (show rnums_m_b0 h (rnums_m_l0 h k38) x26 x27 x28 x29 x30 x31 x32 x33 x34 x35 x36 = .inl (x26, x27, x28, x29, x30, x31, x32, x33, x34, x35, x36) from by unfold rnums_m_b0; rw [if_neg hc59] <;> rfl)), (by first | omega | (simp; done) | (simp; omega) | (simp at *; omega)), rfl, hm53⟩
    refine wp_skip ?_
    refine then_n (hK57 _ _ ?_)
    refine wp_seq_k (fun K60 hK60 => ?_)
    refine wp_block ?_
    refine wp_seq_k (fun K61 hK61 => ?_)
    have hm62 := hm53.drew
    refine wp_region_held_drew (S := fun w' => Mem.Blk w' g15 (#[.int .i64 (h.mode), .int .i64 (h.uid), .int .i64 (h.gid), .int .i64 (h.size), .int .i64 (h.time)]) 51 ∧ Mem.Blk w' g21 (#[.int .i64 8, .int .i64 8, .int .i64 8, .int .i64 12, .int .i64 12]) 51) (by kernel_rfl) (⟨hm62.at 3 rfl, hm62.at 4 rfl⟩) (fun _ => ?_)
    generalize w52.drew = w63 at *
    refine tk 0 27 (.int .i64 ((x26 : Nat) : Int)) rfl rfl (fun _ hw => run_mv rfl rfl) (⟨hm62.at 3 rfl, hm62.at 4 rfl⟩) ?_
    simp only [nz1, nz2, nz3]
    by_cases hx64 : x26 = 0
    · refine tk 1 28 (.pointer (some ⟨g15, 0, none⟩)) rfl rfl (fun _ hw => Sx.r_ix g15 0 (by decide) Tryd.underlying51 sz_3 rfl rfl (show (Value.int .i64 ((x26 : Nat) : Int)) = .int .i64 (((0 : Nat)) : Int) from by congr 1; omega)) (⟨hm62.at 3 rfl, hm62.at 4 rfl⟩) ?_
      simp only [nz1, nz2, nz3]
      refine tk 2 29 (.int .i64 (h.mode)) rfl rfl (fun _ hw => r_load hw.1 rfl Tryd.underlying3 rfl rfl rfl) (⟨hm62.at 3 rfl, hm62.at 4 rfl⟩) ?_
      simp only [nz1, nz2, nz3]
      refine tk 3 30 (.int .i64 ((x26 : Nat) : Int)) rfl rfl (fun _ hw => run_mv rfl rfl) (⟨hm62.at 3 rfl, hm62.at 4 rfl⟩) ?_
      simp only [nz1, nz2, nz3]
      refine tk 4 31 (.pointer (some ⟨g21, 0, none⟩)) rfl rfl (fun _ hw => Sx.r_ix g21 0 (by decide) Tryd.underlying51 sz_3 rfl rfl (show (Value.int .i64 ((x26 : Nat) : Int)) = .int .i64 (((0 : Nat)) : Int) from by congr 1; omega)) (⟨hm62.at 3 rfl, hm62.at 4 rfl⟩) ?_
      simp only [nz1, nz2, nz3]
      refine tk 5 32 (.int .i64 8) rfl rfl (fun _ hw => r_load hw.2 rfl Tryd.underlying3 rfl rfl rfl) (⟨hm62.at 3 rfl, hm62.at 4 rfl⟩) ?_
      simp only [nz1, nz2, nz3]
      refine one_ready 6 (by kernel_rfl) ?_
      refine opd rfl (wanted_none rfl) (m_call hm62 33 (.tuple #[.string (tx ((rput_m h.mode 8).1)), .int .i64 ((rput_m h.mode 8).2)]) rfl (run_rput rfl rfl rfl) (rput_any h.mode 8  _  (by first | omega | assumption | (simp; done) | (simp; omega) | (simp only [List.length_append, List.length_cons, List.length_nil]; omega) | (simp only [List.length_append, List.length_cons, List.length_nil] at *; omega) | decide)) (fun w65 (hm66 : Mm none (fun _ => True) w w65 [.blk g4 #[.string (tx h.name), .int .i64 (h.mode), .int .i64 (h.uid), .int .i64 (h.gid), .int .i64 (h.size), .int .i64 (h.time), .int .u8 ((h.flag.toNat : Nat) : Int), .string (tx h.link), .string (tx h.pfx)] 23, .blk g7 #[.string (tx x27), .string (tx x28), .string (tx x29), .string (tx x30), .string (tx x31)] 56, .blk g11 #[.string (tx x32), .string (tx x33), .string (tx x34), .string (tx x35), .string (tx x36)] 56, .blk g15 #[.int .i64 (h.mode), .int .i64 (h.uid), .int .i64 (h.gid), .int .i64 (h.size), .int .i64 (h.time)] 51, .blk g21 #[.int .i64 8, .int .i64 8, .int .i64 8, .int .i64 12, .int .i64 12] 51]) => ?_))
      have hf67 : (rput_m h.mode 8).1.length ≤ 12 := rput_len h.mode 8
      refine ⟨⟨hm66.at 3 rfl, hm66.at 4 rfl⟩, ?_⟩
      simp only [nz1, nz2, nz3]
      refine tk 7 26 (.tuple #[.string (tx ((rput_m h.mode 8).1)), .int .i64 ((rput_m h.mode 8).2)]) rfl rfl (fun _ hw => run_mv rfl rfl) (⟨hm66.at 3 rfl, hm66.at 4 rfl⟩) ?_
      simp only [nz1, nz2, nz3]
      refine tk 8 34 (.string (tx ((rput_m h.mode 8).1))) rfl rfl (fun _ hw => run_ex rfl rfl rfl) (⟨hm66.at 3 rfl, hm66.at 4 rfl⟩) ?_
      simp only [nz1, nz2, nz3]
      refine tk 9 35 (.int .i64 ((rput_m h.mode 8).2)) rfl rfl (fun _ hw => run_ex rfl rfl rfl) (⟨hm66.at 3 rfl, hm66.at 4 rfl⟩) ?_
      simp only [nz1, nz2, nz3]
      refine one_ready 10 (by kernel_rfl) ?_
      refine opd rfl (wanted_none rfl) (w_value 8 (.string (tx ((rput_m h.mode 8).1))) rfl (run_as rfl rfl) ⟨⟨hm66.at 3 rfl, hm66.at 4 rfl⟩, ?_⟩)
      simp only [nz1, nz2, nz3]
      refine one_ready 11 (by kernel_rfl) ?_
      refine opd rfl (wanted_none rfl) (w_value 9 (.int .i64 ((rput_m h.mode 8).2)) rfl (run_as rfl rfl) ⟨⟨hm66.at 3 rfl, hm66.at 4 rfl⟩, ?_⟩)
      simp only [nz1, nz2, nz3]
      refine wpAnyH_done (by kernel_rfl) ?_ _
      refine then_n (hK61 _ _ ?_)
      refine wp_seq_k (fun K68 hK68 => ?_)
      refine wp_seq_k (fun K69 hK69 => ?_)
      refine wp_region_lit ?_
      refine lvw 36 (.int .i64 ((rput_m h.mode 8).2)) rfl rfl (run_mv rfl rfl) ?_
      simp only [nz1, nz2, nz3]
      refine lvw 37 (.bool (decide (¬ (rput_m h.mode 8).2 = 0))) rfl rfl (z_neq ((rput_m h.mode 8).2) 0 rfl rfl rfl) ?_
      simp only [nz1, nz2, nz3]
      refine wpList_nil ?_
      refine then_n (hK69 _ _ ?_)
      refine cond_d (¬ (rput_m h.mode 8).2 = 0) rfl (fun hc70 => ?_) (fun hc70 => ?_)
      · refine wp_seq_k (fun K71 hK71 => ?_)
        refine wp_region_lit ?_
        refine lvw 38 (.agg #[.string (tx x32), .string (tx x33), .string (tx x34), .string (tx x35), .string (tx x36)]) rfl rfl (r_whole (hm66.at 2 rfl) Tryd.underlying56 rfl (by exact sz_56) rfl rfl) ?_
        simp only [nz1, nz2, nz3]
        refine lvw 39 (.int .i64 ((rput_m h.mode 8).2)) rfl rfl (run_mv rfl rfl) ?_
        simp only [nz1, nz2, nz3]
        refine lst rfl (m_store 1 56 _ _ 0 (.agg #[.string (tx x32), .string (tx x33), .string (tx x34), .string (tx x35), .string (tx x36)]) (old := #[.string (tx x27), .string (tx x28), .string (tx x29), .string (tx x30), .string (tx x31)]) (new := #[.string (tx x32), .string (tx x33), .string (tx x34), .string (tx x35), .string (tx x36)]) hm66 rfl rfl rfl rfl rfl (by exact sz_56) (show 0 + 5 ≤ 5 from by decide) (by simp [Value.cells, Value.oneCell']) rfl (fun w72 (hm73 : Mm none (fun _ => True) w w72 [.blk g4 #[.string (tx h.name), .int .i64 (h.mode), .int .i64 (h.uid), .int .i64 (h.gid), .int .i64 (h.size), .int .i64 (h.time), .int .u8 ((h.flag.toNat : Nat) : Int), .string (tx h.link), .string (tx h.pfx)] 23, .blk g7 #[.string (tx x32), .string (tx x33), .string (tx x34), .string (tx x35), .string (tx x36)] 56, .blk g11 #[.string (tx x32), .string (tx x33), .string (tx x34), .string (tx x35), .string (tx x36)] 56, .blk g15 #[.int .i64 (h.mode), .int .i64 (h.uid), .int .i64 (h.gid), .int .i64 (h.size), .int .i64 (h.time)] 51, .blk g21 #[.int .i64 8, .int .i64 8, .int .i64 8, .int .i64 12, .int .i64 12] 51]) => ?_))
        refine lvw 3 (.int .i64 ((rput_m h.mode 8).2)) rfl rfl (run_as rfl rfl) ?_
        simp only [nz1, nz2, nz3]
        refine wpList_nil ?_
        refine then_n (hK71 _ _ ?_)
        refine wp_ret ?_
        refine then_r ?_
        refine blk_r ?_
        refine then_r ?_
        refine then_r ?_
        refine blk_r ?_
        refine then_r ?_
        refine then_r ?_
        have he74 : rnums_m_l0 h ((5 - 0) + 1) (0, ([]), ([]), ([]), ([]), ([]), ([]), ([]), ([]), ([]), ([])) = .inr ((A56.mk x32 x33 x34 x35 x36), (rput_m h.mode 8).2) := (hi39.trans (show rnums_m_b0 h (rnums_m_l0 h k38) x26 x27 x28 x29 x30 x31 x32 x33 x34 x35 x36 = .inr ((A56.mk x32 x33 x34 x35 x36), (rput_m h.mode 8).2) from by unfold rnums_m_b0; rw [if_pos hc59, if_pos hx64, if_pos hc70] <;> rfl))
        have he75 : rnums_m h = ((A56.mk x32 x33 x34 x35 x36), (rput_m h.mode 8).2) := (show rnums_m h = ((A56.mk x32 x33 x34 x35 x36), (rput_m h.mode 8).2) from by unfold rnums_m; rw [he74] <;> rfl)
        exact ⟨rfl, .tuple #[.agg #[.string (tx x32), .string (tx x33), .string (tx x34), .string (tx x35), .string (tx x36)], .int .i64 ((rput_m h.mode 8).2)], Mem.res_ct rfl rfl (hm73.at 1 rfl) Tryd.underlying56 rfl (by exact sz_56) rfl, ⟨by (rw [he75]; try rfl), hm73.below⟩⟩
      refine wp_skip ?_
      refine then_n (hK68 _ _ ?_)
      refine wp_region_lit ?_
      refine lvw 40 (.int .i64 ((x26 : Nat) : Int)) rfl rfl (run_mv rfl rfl) ?_
      simp only [nz1, nz2, nz3]
      refine lvw 41 (.string (tx ((rput_m h.mode 8).1))) rfl rfl (run_mv rfl rfl) ?_
      simp only [nz1, nz2, nz3]
      refine lvw 42 (.pointer (some ⟨g11, 0, none⟩)) rfl rfl (Sx.r_ix g11 0 (by decide) Tryd.underlying56 sz_9 rfl rfl (show (Value.int .i64 ((x26 : Nat) : Int)) = .int .i64 (((0 : Nat)) : Int) from by congr 1; omega)) ?_
      simp only [nz1, nz2, nz3]
      refine lst rfl (m_store 2 9 _ _ 0 (.string (tx ((rput_m h.mode 8).1))) (old := #[.string (tx x32), .string (tx x33), .string (tx x34), .string (tx x35), .string (tx x36)]) (new := #[.string (tx ((rput_m h.mode 8).1)), .string (tx x33), .string (tx x34), .string (tx x35), .string (tx x36)]) hm66 rfl rfl rfl rfl rfl (by exact sz_9) (show 0 + 1 ≤ 5 from by decide) (one_all rfl) rfl (fun w76 (hm77 : Mm none (fun _ => True) w w76 [.blk g4 #[.string (tx h.name), .int .i64 (h.mode), .int .i64 (h.uid), .int .i64 (h.gid), .int .i64 (h.size), .int .i64 (h.time), .int .u8 ((h.flag.toNat : Nat) : Int), .string (tx h.link), .string (tx h.pfx)] 23, .blk g7 #[.string (tx x27), .string (tx x28), .string (tx x29), .string (tx x30), .string (tx x31)] 56, .blk g11 #[.string (tx ((rput_m h.mode 8).1)), .string (tx x33), .string (tx x34), .string (tx x35), .string (tx x36)] 56, .blk g15 #[.int .i64 (h.mode), .int .i64 (h.uid), .int .i64 (h.gid), .int .i64 (h.size), .int .i64 (h.time)] 51, .blk g21 #[.int .i64 8, .int .i64 8, .int .i64 8, .int .i64 12, .int .i64 12] 51]) => ?_))
      refine wpList_nil ?_
      refine blk_n ?_
      refine then_n (hK60 _ _ ?_)
      refine wp_region_lit ?_
      refine lvw 24 (.int .i64 ((x26 : Nat) : Int)) rfl rfl (run_mv rfl rfl) ?_
      simp only [nz1, nz2, nz3]
      refine lvw 25 (.int .i64 (((x26 + 1) : Nat) : Int)) rfl rfl (r_add x26 1 (show (x26 + 1) < 9223372036854775808 from by omega) rfl rfl rfl) ?_
      simp only [nz1, nz2, nz3]
      refine lvw 7 (.int .i64 (((x26 + 1) : Nat) : Int)) rfl rfl (run_as rfl rfl) ?_
      simp only [nz1, nz2, nz3]
      refine wpList_nil ?_
      refine then_n (hR54 _ _ _ ⟨k38, (x26 + 1), x27, x28, x29, x30, x31, ((rput_m h.mode 8).1), x33, x34, x35, x36, (fun qq => List.getD [u0 0, .string (tx ((rput_m h.mode 8).1)), .int .i64 ((rput_m h.mode 8).2), .int .i64 ((x26 : Nat) : Int), .bool (decide (x26 < 5)), .int .i64 ((x26 : Nat) : Int), .int .i64 (((x26 + 1) : Nat) : Int), .tuple #[.string (tx ((rput_m h.mode 8).1)), .int .i64 ((rput_m h.mode 8).2)], .int .i64 ((x26 : Nat) : Int), .pointer (some ⟨g15, 0, none⟩), .int .i64 (h.mode), .int .i64 ((x26 : Nat) : Int), .pointer (some ⟨g21, 0, none⟩), .int .i64 8, .tuple #[.string (tx ((rput_m h.mode 8).1)), .int .i64 ((rput_m h.mode 8).2)], .string (tx ((rput_m h.mode 8).1)), .int .i64 ((rput_m h.mode 8).2), .int .i64 ((rput_m h.mode 8).2), .bool (decide (¬ (rput_m h.mode 8).2 = 0)), u0 19, u0 20, .int .i64 ((x26 : Nat) : Int), .string (tx ((rput_m h.mode 8).1)), .pointer (some ⟨g11, 0, none⟩)] qq undef), rfl, (by first | omega | (simp; omega) | (simp at *; omega)), (hi39.trans (show rnums_m_b0 h (rnums_m_l0 h k38) x26 x27 x28 x29 x30 x31 x32 x33 x34 x35 x36 = rnums_m_l0 h k38 ((x26 + 1), x27, x28, x29, x30, x31, ((rput_m h.mode 8).1), x33, x34, x35, x36) from by unfold rnums_m_b0; rw [if_pos hc59, if_pos hx64, if_neg hc70] <;> rfl)), (by first | omega | (simp; done) | (simp; omega) | (simp at *; omega)), rfl, hm77⟩ ?_)
      omega
    by_cases hx78 : x26 = 1
    · refine tk 1 28 (.pointer (some ⟨g15, 1, none⟩)) rfl rfl (fun _ hw => Sx.r_ix g15 1 (by decide) Tryd.underlying51 sz_3 rfl rfl (show (Value.int .i64 ((x26 : Nat) : Int)) = .int .i64 (((1 : Nat)) : Int) from by congr 1; omega)) (⟨hm62.at 3 rfl, hm62.at 4 rfl⟩) ?_
      simp only [nz1, nz2, nz3]
      refine tk 2 29 (.int .i64 (h.uid)) rfl rfl (fun _ hw => r_load hw.1 rfl Tryd.underlying3 rfl rfl rfl) (⟨hm62.at 3 rfl, hm62.at 4 rfl⟩) ?_
      simp only [nz1, nz2, nz3]
      refine tk 3 30 (.int .i64 ((x26 : Nat) : Int)) rfl rfl (fun _ hw => run_mv rfl rfl) (⟨hm62.at 3 rfl, hm62.at 4 rfl⟩) ?_
      simp only [nz1, nz2, nz3]
      refine tk 4 31 (.pointer (some ⟨g21, 1, none⟩)) rfl rfl (fun _ hw => Sx.r_ix g21 1 (by decide) Tryd.underlying51 sz_3 rfl rfl (show (Value.int .i64 ((x26 : Nat) : Int)) = .int .i64 (((1 : Nat)) : Int) from by congr 1; omega)) (⟨hm62.at 3 rfl, hm62.at 4 rfl⟩) ?_
      simp only [nz1, nz2, nz3]
      refine tk 5 32 (.int .i64 8) rfl rfl (fun _ hw => r_load hw.2 rfl Tryd.underlying3 rfl rfl rfl) (⟨hm62.at 3 rfl, hm62.at 4 rfl⟩) ?_
      simp only [nz1, nz2, nz3]
      refine one_ready 6 (by kernel_rfl) ?_
      refine opd rfl (wanted_none rfl) (m_call hm62 33 (.tuple #[.string (tx ((rput_m h.uid 8).1)), .int .i64 ((rput_m h.uid 8).2)]) rfl (run_rput rfl rfl rfl) (rput_any h.uid 8  _  (by first | omega | assumption | (simp; done) | (simp; omega) | (simp only [List.length_append, List.length_cons, List.length_nil]; omega) | (simp only [List.length_append, List.length_cons, List.length_nil] at *; omega) | decide)) (fun w79 (hm80 : Mm none (fun _ => True) w w79 [.blk g4 #[.string (tx h.name), .int .i64 (h.mode), .int .i64 (h.uid), .int .i64 (h.gid), .int .i64 (h.size), .int .i64 (h.time), .int .u8 ((h.flag.toNat : Nat) : Int), .string (tx h.link), .string (tx h.pfx)] 23, .blk g7 #[.string (tx x27), .string (tx x28), .string (tx x29), .string (tx x30), .string (tx x31)] 56, .blk g11 #[.string (tx x32), .string (tx x33), .string (tx x34), .string (tx x35), .string (tx x36)] 56, .blk g15 #[.int .i64 (h.mode), .int .i64 (h.uid), .int .i64 (h.gid), .int .i64 (h.size), .int .i64 (h.time)] 51, .blk g21 #[.int .i64 8, .int .i64 8, .int .i64 8, .int .i64 12, .int .i64 12] 51]) => ?_))
      have hf81 : (rput_m h.uid 8).1.length ≤ 12 := rput_len h.uid 8
      refine ⟨⟨hm80.at 3 rfl, hm80.at 4 rfl⟩, ?_⟩
      simp only [nz1, nz2, nz3]
      refine tk 7 26 (.tuple #[.string (tx ((rput_m h.uid 8).1)), .int .i64 ((rput_m h.uid 8).2)]) rfl rfl (fun _ hw => run_mv rfl rfl) (⟨hm80.at 3 rfl, hm80.at 4 rfl⟩) ?_
      simp only [nz1, nz2, nz3]
      refine tk 8 34 (.string (tx ((rput_m h.uid 8).1))) rfl rfl (fun _ hw => run_ex rfl rfl rfl) (⟨hm80.at 3 rfl, hm80.at 4 rfl⟩) ?_
      simp only [nz1, nz2, nz3]
      refine tk 9 35 (.int .i64 ((rput_m h.uid 8).2)) rfl rfl (fun _ hw => run_ex rfl rfl rfl) (⟨hm80.at 3 rfl, hm80.at 4 rfl⟩) ?_
      simp only [nz1, nz2, nz3]
      refine one_ready 10 (by kernel_rfl) ?_
      refine opd rfl (wanted_none rfl) (w_value 8 (.string (tx ((rput_m h.uid 8).1))) rfl (run_as rfl rfl) ⟨⟨hm80.at 3 rfl, hm80.at 4 rfl⟩, ?_⟩)
      simp only [nz1, nz2, nz3]
      refine one_ready 11 (by kernel_rfl) ?_
      refine opd rfl (wanted_none rfl) (w_value 9 (.int .i64 ((rput_m h.uid 8).2)) rfl (run_as rfl rfl) ⟨⟨hm80.at 3 rfl, hm80.at 4 rfl⟩, ?_⟩)
      simp only [nz1, nz2, nz3]
      refine wpAnyH_done (by kernel_rfl) ?_ _
      refine then_n (hK61 _ _ ?_)
      refine wp_seq_k (fun K82 hK82 => ?_)
      refine wp_seq_k (fun K83 hK83 => ?_)
      refine wp_region_lit ?_
      refine lvw 36 (.int .i64 ((rput_m h.uid 8).2)) rfl rfl (run_mv rfl rfl) ?_
      simp only [nz1, nz2, nz3]
      refine lvw 37 (.bool (decide (¬ (rput_m h.uid 8).2 = 0))) rfl rfl (z_neq ((rput_m h.uid 8).2) 0 rfl rfl rfl) ?_
      simp only [nz1, nz2, nz3]
      refine wpList_nil ?_
      refine then_n (hK83 _ _ ?_)
      refine cond_d (¬ (rput_m h.uid 8).2 = 0) rfl (fun hc84 => ?_) (fun hc84 => ?_)
      · refine wp_seq_k (fun K85 hK85 => ?_)
        refine wp_region_lit ?_
        refine lvw 38 (.agg #[.string (tx x32), .string (tx x33), .string (tx x34), .string (tx x35), .string (tx x36)]) rfl rfl (r_whole (hm80.at 2 rfl) Tryd.underlying56 rfl (by exact sz_56) rfl rfl) ?_
        simp only [nz1, nz2, nz3]
        refine lvw 39 (.int .i64 ((rput_m h.uid 8).2)) rfl rfl (run_mv rfl rfl) ?_
        simp only [nz1, nz2, nz3]
        refine lst rfl (m_store 1 56 _ _ 0 (.agg #[.string (tx x32), .string (tx x33), .string (tx x34), .string (tx x35), .string (tx x36)]) (old := #[.string (tx x27), .string (tx x28), .string (tx x29), .string (tx x30), .string (tx x31)]) (new := #[.string (tx x32), .string (tx x33), .string (tx x34), .string (tx x35), .string (tx x36)]) hm80 rfl rfl rfl rfl rfl (by exact sz_56) (show 0 + 5 ≤ 5 from by decide) (by simp [Value.cells, Value.oneCell']) rfl (fun w86 (hm87 : Mm none (fun _ => True) w w86 [.blk g4 #[.string (tx h.name), .int .i64 (h.mode), .int .i64 (h.uid), .int .i64 (h.gid), .int .i64 (h.size), .int .i64 (h.time), .int .u8 ((h.flag.toNat : Nat) : Int), .string (tx h.link), .string (tx h.pfx)] 23, .blk g7 #[.string (tx x32), .string (tx x33), .string (tx x34), .string (tx x35), .string (tx x36)] 56, .blk g11 #[.string (tx x32), .string (tx x33), .string (tx x34), .string (tx x35), .string (tx x36)] 56, .blk g15 #[.int .i64 (h.mode), .int .i64 (h.uid), .int .i64 (h.gid), .int .i64 (h.size), .int .i64 (h.time)] 51, .blk g21 #[.int .i64 8, .int .i64 8, .int .i64 8, .int .i64 12, .int .i64 12] 51]) => ?_))
        refine lvw 3 (.int .i64 ((rput_m h.uid 8).2)) rfl rfl (run_as rfl rfl) ?_
        simp only [nz1, nz2, nz3]
        refine wpList_nil ?_
        refine then_n (hK85 _ _ ?_)
        refine wp_ret ?_
        refine then_r ?_
        refine blk_r ?_
        refine then_r ?_
        refine then_r ?_
        refine blk_r ?_
        refine then_r ?_
        refine then_r ?_
        have he88 : rnums_m_l0 h ((5 - 0) + 1) (0, ([]), ([]), ([]), ([]), ([]), ([]), ([]), ([]), ([]), ([])) = .inr ((A56.mk x32 x33 x34 x35 x36), (rput_m h.uid 8).2) := (hi39.trans (show rnums_m_b0 h (rnums_m_l0 h k38) x26 x27 x28 x29 x30 x31 x32 x33 x34 x35 x36 = .inr ((A56.mk x32 x33 x34 x35 x36), (rput_m h.uid 8).2) from by unfold rnums_m_b0; rw [if_pos hc59, if_neg hx64, if_pos hx78, if_pos hc84] <;> rfl))
        have he89 : rnums_m h = ((A56.mk x32 x33 x34 x35 x36), (rput_m h.uid 8).2) := (show rnums_m h = ((A56.mk x32 x33 x34 x35 x36), (rput_m h.uid 8).2) from by unfold rnums_m; rw [he88] <;> rfl)
        exact ⟨rfl, .tuple #[.agg #[.string (tx x32), .string (tx x33), .string (tx x34), .string (tx x35), .string (tx x36)], .int .i64 ((rput_m h.uid 8).2)], Mem.res_ct rfl rfl (hm87.at 1 rfl) Tryd.underlying56 rfl (by exact sz_56) rfl, ⟨by (rw [he89]; try rfl), hm87.below⟩⟩
      refine wp_skip ?_
      refine then_n (hK82 _ _ ?_)
      refine wp_region_lit ?_
      refine lvw 40 (.int .i64 ((x26 : Nat) : Int)) rfl rfl (run_mv rfl rfl) ?_
      simp only [nz1, nz2, nz3]
      refine lvw 41 (.string (tx ((rput_m h.uid 8).1))) rfl rfl (run_mv rfl rfl) ?_
      simp only [nz1, nz2, nz3]
      refine lvw 42 (.pointer (some ⟨g11, 1, none⟩)) rfl rfl (Sx.r_ix g11 1 (by decide) Tryd.underlying56 sz_9 rfl rfl (show (Value.int .i64 ((x26 : Nat) : Int)) = .int .i64 (((1 : Nat)) : Int) from by congr 1; omega)) ?_
      simp only [nz1, nz2, nz3]
      refine lst rfl (m_store 2 9 _ _ 1 (.string (tx ((rput_m h.uid 8).1))) (old := #[.string (tx x32), .string (tx x33), .string (tx x34), .string (tx x35), .string (tx x36)]) (new := #[.string (tx x32), .string (tx ((rput_m h.uid 8).1)), .string (tx x34), .string (tx x35), .string (tx x36)]) hm80 rfl rfl rfl rfl rfl (by exact sz_9) (show 1 + 1 ≤ 5 from by decide) (one_all rfl) rfl (fun w90 (hm91 : Mm none (fun _ => True) w w90 [.blk g4 #[.string (tx h.name), .int .i64 (h.mode), .int .i64 (h.uid), .int .i64 (h.gid), .int .i64 (h.size), .int .i64 (h.time), .int .u8 ((h.flag.toNat : Nat) : Int), .string (tx h.link), .string (tx h.pfx)] 23, .blk g7 #[.string (tx x27), .string (tx x28), .string (tx x29), .string (tx x30), .string (tx x31)] 56, .blk g11 #[.string (tx x32), .string (tx ((rput_m h.uid 8).1)), .string (tx x34), .string (tx x35), .string (tx x36)] 56, .blk g15 #[.int .i64 (h.mode), .int .i64 (h.uid), .int .i64 (h.gid), .int .i64 (h.size), .int .i64 (h.time)] 51, .blk g21 #[.int .i64 8, .int .i64 8, .int .i64 8, .int .i64 12, .int .i64 12] 51]) => ?_))
      refine wpList_nil ?_
      refine blk_n ?_
      refine then_n (hK60 _ _ ?_)
      refine wp_region_lit ?_
      refine lvw 24 (.int .i64 ((x26 : Nat) : Int)) rfl rfl (run_mv rfl rfl) ?_
      simp only [nz1, nz2, nz3]
      refine lvw 25 (.int .i64 (((x26 + 1) : Nat) : Int)) rfl rfl (r_add x26 1 (show (x26 + 1) < 9223372036854775808 from by omega) rfl rfl rfl) ?_
      simp only [nz1, nz2, nz3]
      refine lvw 7 (.int .i64 (((x26 + 1) : Nat) : Int)) rfl rfl (run_as rfl rfl) ?_
      simp only [nz1, nz2, nz3]
      refine wpList_nil ?_
      refine then_n (hR54 _ _ _ ⟨k38, (x26 + 1), x27, x28, x29, x30, x31, x32, ((rput_m h.uid 8).1), x34, x35, x36, (fun qq => List.getD [u0 0, .string (tx ((rput_m h.uid 8).1)), .int .i64 ((rput_m h.uid 8).2), .int .i64 ((x26 : Nat) : Int), .bool (decide (x26 < 5)), .int .i64 ((x26 : Nat) : Int), .int .i64 (((x26 + 1) : Nat) : Int), .tuple #[.string (tx ((rput_m h.uid 8).1)), .int .i64 ((rput_m h.uid 8).2)], .int .i64 ((x26 : Nat) : Int), .pointer (some ⟨g15, 1, none⟩), .int .i64 (h.uid), .int .i64 ((x26 : Nat) : Int), .pointer (some ⟨g21, 1, none⟩), .int .i64 8, .tuple #[.string (tx ((rput_m h.uid 8).1)), .int .i64 ((rput_m h.uid 8).2)], .string (tx ((rput_m h.uid 8).1)), .int .i64 ((rput_m h.uid 8).2), .int .i64 ((rput_m h.uid 8).2), .bool (decide (¬ (rput_m h.uid 8).2 = 0)), u0 19, u0 20, .int .i64 ((x26 : Nat) : Int), .string (tx ((rput_m h.uid 8).1)), .pointer (some ⟨g11, 1, none⟩)] qq undef), rfl, (by first | omega | (simp; omega) | (simp at *; omega)), (hi39.trans (show rnums_m_b0 h (rnums_m_l0 h k38) x26 x27 x28 x29 x30 x31 x32 x33 x34 x35 x36 = rnums_m_l0 h k38 ((x26 + 1), x27, x28, x29, x30, x31, x32, ((rput_m h.uid 8).1), x34, x35, x36) from by unfold rnums_m_b0; rw [if_pos hc59, if_neg hx64, if_pos hx78, if_neg hc84] <;> rfl)), (by first | omega | (simp; done) | (simp; omega) | (simp at *; omega)), rfl, hm91⟩ ?_)
      omega
    by_cases hx92 : x26 = 2
    · refine tk 1 28 (.pointer (some ⟨g15, 2, none⟩)) rfl rfl (fun _ hw => Sx.r_ix g15 2 (by decide) Tryd.underlying51 sz_3 rfl rfl (show (Value.int .i64 ((x26 : Nat) : Int)) = .int .i64 (((2 : Nat)) : Int) from by congr 1; omega)) (⟨hm62.at 3 rfl, hm62.at 4 rfl⟩) ?_
      simp only [nz1, nz2, nz3]
      refine tk 2 29 (.int .i64 (h.gid)) rfl rfl (fun _ hw => r_load hw.1 rfl Tryd.underlying3 rfl rfl rfl) (⟨hm62.at 3 rfl, hm62.at 4 rfl⟩) ?_
      simp only [nz1, nz2, nz3]
      refine tk 3 30 (.int .i64 ((x26 : Nat) : Int)) rfl rfl (fun _ hw => run_mv rfl rfl) (⟨hm62.at 3 rfl, hm62.at 4 rfl⟩) ?_
      simp only [nz1, nz2, nz3]
      refine tk 4 31 (.pointer (some ⟨g21, 2, none⟩)) rfl rfl (fun _ hw => Sx.r_ix g21 2 (by decide) Tryd.underlying51 sz_3 rfl rfl (show (Value.int .i64 ((x26 : Nat) : Int)) = .int .i64 (((2 : Nat)) : Int) from by congr 1; omega)) (⟨hm62.at 3 rfl, hm62.at 4 rfl⟩) ?_
      simp only [nz1, nz2, nz3]
      refine tk 5 32 (.int .i64 8) rfl rfl (fun _ hw => r_load hw.2 rfl Tryd.underlying3 rfl rfl rfl) (⟨hm62.at 3 rfl, hm62.at 4 rfl⟩) ?_
      simp only [nz1, nz2, nz3]
      refine one_ready 6 (by kernel_rfl) ?_
      refine opd rfl (wanted_none rfl) (m_call hm62 33 (.tuple #[.string (tx ((rput_m h.gid 8).1)), .int .i64 ((rput_m h.gid 8).2)]) rfl (run_rput rfl rfl rfl) (rput_any h.gid 8  _  (by first | omega | assumption | (simp; done) | (simp; omega) | (simp only [List.length_append, List.length_cons, List.length_nil]; omega) | (simp only [List.length_append, List.length_cons, List.length_nil] at *; omega) | decide)) (fun w93 (hm94 : Mm none (fun _ => True) w w93 [.blk g4 #[.string (tx h.name), .int .i64 (h.mode), .int .i64 (h.uid), .int .i64 (h.gid), .int .i64 (h.size), .int .i64 (h.time), .int .u8 ((h.flag.toNat : Nat) : Int), .string (tx h.link), .string (tx h.pfx)] 23, .blk g7 #[.string (tx x27), .string (tx x28), .string (tx x29), .string (tx x30), .string (tx x31)] 56, .blk g11 #[.string (tx x32), .string (tx x33), .string (tx x34), .string (tx x35), .string (tx x36)] 56, .blk g15 #[.int .i64 (h.mode), .int .i64 (h.uid), .int .i64 (h.gid), .int .i64 (h.size), .int .i64 (h.time)] 51, .blk g21 #[.int .i64 8, .int .i64 8, .int .i64 8, .int .i64 12, .int .i64 12] 51]) => ?_))
      have hf95 : (rput_m h.gid 8).1.length ≤ 12 := rput_len h.gid 8
      refine ⟨⟨hm94.at 3 rfl, hm94.at 4 rfl⟩, ?_⟩
      simp only [nz1, nz2, nz3]
      refine tk 7 26 (.tuple #[.string (tx ((rput_m h.gid 8).1)), .int .i64 ((rput_m h.gid 8).2)]) rfl rfl (fun _ hw => run_mv rfl rfl) (⟨hm94.at 3 rfl, hm94.at 4 rfl⟩) ?_
      simp only [nz1, nz2, nz3]
      refine tk 8 34 (.string (tx ((rput_m h.gid 8).1))) rfl rfl (fun _ hw => run_ex rfl rfl rfl) (⟨hm94.at 3 rfl, hm94.at 4 rfl⟩) ?_
      simp only [nz1, nz2, nz3]
      refine tk 9 35 (.int .i64 ((rput_m h.gid 8).2)) rfl rfl (fun _ hw => run_ex rfl rfl rfl) (⟨hm94.at 3 rfl, hm94.at 4 rfl⟩) ?_
      simp only [nz1, nz2, nz3]
      refine one_ready 10 (by kernel_rfl) ?_
      refine opd rfl (wanted_none rfl) (w_value 8 (.string (tx ((rput_m h.gid 8).1))) rfl (run_as rfl rfl) ⟨⟨hm94.at 3 rfl, hm94.at 4 rfl⟩, ?_⟩)
      simp only [nz1, nz2, nz3]
      refine one_ready 11 (by kernel_rfl) ?_
      refine opd rfl (wanted_none rfl) (w_value 9 (.int .i64 ((rput_m h.gid 8).2)) rfl (run_as rfl rfl) ⟨⟨hm94.at 3 rfl, hm94.at 4 rfl⟩, ?_⟩)
      simp only [nz1, nz2, nz3]
      refine wpAnyH_done (by kernel_rfl) ?_ _
      refine then_n (hK61 _ _ ?_)
      refine wp_seq_k (fun K96 hK96 => ?_)
      refine wp_seq_k (fun K97 hK97 => ?_)
      refine wp_region_lit ?_
      refine lvw 36 (.int .i64 ((rput_m h.gid 8).2)) rfl rfl (run_mv rfl rfl) ?_
      simp only [nz1, nz2, nz3]
      refine lvw 37 (.bool (decide (¬ (rput_m h.gid 8).2 = 0))) rfl rfl (z_neq ((rput_m h.gid 8).2) 0 rfl rfl rfl) ?_
      simp only [nz1, nz2, nz3]
      refine wpList_nil ?_
      refine then_n (hK97 _ _ ?_)
      refine cond_d (¬ (rput_m h.gid 8).2 = 0) rfl (fun hc98 => ?_) (fun hc98 => ?_)
      · refine wp_seq_k (fun K99 hK99 => ?_)
        refine wp_region_lit ?_
        refine lvw 38 (.agg #[.string (tx x32), .string (tx x33), .string (tx x34), .string (tx x35), .string (tx x36)]) rfl rfl (r_whole (hm94.at 2 rfl) Tryd.underlying56 rfl (by exact sz_56) rfl rfl) ?_
        simp only [nz1, nz2, nz3]
        refine lvw 39 (.int .i64 ((rput_m h.gid 8).2)) rfl rfl (run_mv rfl rfl) ?_
        simp only [nz1, nz2, nz3]
        refine lst rfl (m_store 1 56 _ _ 0 (.agg #[.string (tx x32), .string (tx x33), .string (tx x34), .string (tx x35), .string (tx x36)]) (old := #[.string (tx x27), .string (tx x28), .string (tx x29), .string (tx x30), .string (tx x31)]) (new := #[.string (tx x32), .string (tx x33), .string (tx x34), .string (tx x35), .string (tx x36)]) hm94 rfl rfl rfl rfl rfl (by exact sz_56) (show 0 + 5 ≤ 5 from by decide) (by simp [Value.cells, Value.oneCell']) rfl (fun w100 (hm101 : Mm none (fun _ => True) w w100 [.blk g4 #[.string (tx h.name), .int .i64 (h.mode), .int .i64 (h.uid), .int .i64 (h.gid), .int .i64 (h.size), .int .i64 (h.time), .int .u8 ((h.flag.toNat : Nat) : Int), .string (tx h.link), .string (tx h.pfx)] 23, .blk g7 #[.string (tx x32), .string (tx x33), .string (tx x34), .string (tx x35), .string (tx x36)] 56, .blk g11 #[.string (tx x32), .string (tx x33), .string (tx x34), .string (tx x35), .string (tx x36)] 56, .blk g15 #[.int .i64 (h.mode), .int .i64 (h.uid), .int .i64 (h.gid), .int .i64 (h.size), .int .i64 (h.time)] 51, .blk g21 #[.int .i64 8, .int .i64 8, .int .i64 8, .int .i64 12, .int .i64 12] 51]) => ?_))
        refine lvw 3 (.int .i64 ((rput_m h.gid 8).2)) rfl rfl (run_as rfl rfl) ?_
        simp only [nz1, nz2, nz3]
        refine wpList_nil ?_
        refine then_n (hK99 _ _ ?_)
        refine wp_ret ?_
        refine then_r ?_
        refine blk_r ?_
        refine then_r ?_
        refine then_r ?_
        refine blk_r ?_
        refine then_r ?_
        refine then_r ?_
        have he102 : rnums_m_l0 h ((5 - 0) + 1) (0, ([]), ([]), ([]), ([]), ([]), ([]), ([]), ([]), ([]), ([])) = .inr ((A56.mk x32 x33 x34 x35 x36), (rput_m h.gid 8).2) := (hi39.trans (show rnums_m_b0 h (rnums_m_l0 h k38) x26 x27 x28 x29 x30 x31 x32 x33 x34 x35 x36 = .inr ((A56.mk x32 x33 x34 x35 x36), (rput_m h.gid 8).2) from by unfold rnums_m_b0; rw [if_pos hc59, if_neg hx64, if_neg hx78, if_pos hx92, if_pos hc98] <;> rfl))
        have he103 : rnums_m h = ((A56.mk x32 x33 x34 x35 x36), (rput_m h.gid 8).2) := (show rnums_m h = ((A56.mk x32 x33 x34 x35 x36), (rput_m h.gid 8).2) from by unfold rnums_m; rw [he102] <;> rfl)
        exact ⟨rfl, .tuple #[.agg #[.string (tx x32), .string (tx x33), .string (tx x34), .string (tx x35), .string (tx x36)], .int .i64 ((rput_m h.gid 8).2)], Mem.res_ct rfl rfl (hm101.at 1 rfl) Tryd.underlying56 rfl (by exact sz_56) rfl, ⟨by (rw [he103]; try rfl), hm101.below⟩⟩
      refine wp_skip ?_
      refine then_n (hK96 _ _ ?_)
      refine wp_region_lit ?_
      refine lvw 40 (.int .i64 ((x26 : Nat) : Int)) rfl rfl (run_mv rfl rfl) ?_
      simp only [nz1, nz2, nz3]
      refine lvw 41 (.string (tx ((rput_m h.gid 8).1))) rfl rfl (run_mv rfl rfl) ?_
      simp only [nz1, nz2, nz3]
      refine lvw 42 (.pointer (some ⟨g11, 2, none⟩)) rfl rfl (Sx.r_ix g11 2 (by decide) Tryd.underlying56 sz_9 rfl rfl (show (Value.int .i64 ((x26 : Nat) : Int)) = .int .i64 (((2 : Nat)) : Int) from by congr 1; omega)) ?_
      simp only [nz1, nz2, nz3]
      refine lst rfl (m_store 2 9 _ _ 2 (.string (tx ((rput_m h.gid 8).1))) (old := #[.string (tx x32), .string (tx x33), .string (tx x34), .string (tx x35), .string (tx x36)]) (new := #[.string (tx x32), .string (tx x33), .string (tx ((rput_m h.gid 8).1)), .string (tx x35), .string (tx x36)]) hm94 rfl rfl rfl rfl rfl (by exact sz_9) (show 2 + 1 ≤ 5 from by decide) (one_all rfl) rfl (fun w104 (hm105 : Mm none (fun _ => True) w w104 [.blk g4 #[.string (tx h.name), .int .i64 (h.mode), .int .i64 (h.uid), .int .i64 (h.gid), .int .i64 (h.size), .int .i64 (h.time), .int .u8 ((h.flag.toNat : Nat) : Int), .string (tx h.link), .string (tx h.pfx)] 23, .blk g7 #[.string (tx x27), .string (tx x28), .string (tx x29), .string (tx x30), .string (tx x31)] 56, .blk g11 #[.string (tx x32), .string (tx x33), .string (tx ((rput_m h.gid 8).1)), .string (tx x35), .string (tx x36)] 56, .blk g15 #[.int .i64 (h.mode), .int .i64 (h.uid), .int .i64 (h.gid), .int .i64 (h.size), .int .i64 (h.time)] 51, .blk g21 #[.int .i64 8, .int .i64 8, .int .i64 8, .int .i64 12, .int .i64 12] 51]) => ?_))
      refine wpList_nil ?_
      refine blk_n ?_
      refine then_n (hK60 _ _ ?_)
      refine wp_region_lit ?_
      refine lvw 24 (.int .i64 ((x26 : Nat) : Int)) rfl rfl (run_mv rfl rfl) ?_
      simp only [nz1, nz2, nz3]
      refine lvw 25 (.int .i64 (((x26 + 1) : Nat) : Int)) rfl rfl (r_add x26 1 (show (x26 + 1) < 9223372036854775808 from by omega) rfl rfl rfl) ?_
      simp only [nz1, nz2, nz3]
      refine lvw 7 (.int .i64 (((x26 + 1) : Nat) : Int)) rfl rfl (run_as rfl rfl) ?_
      simp only [nz1, nz2, nz3]
      refine wpList_nil ?_
      refine then_n (hR54 _ _ _ ⟨k38, (x26 + 1), x27, x28, x29, x30, x31, x32, x33, ((rput_m h.gid 8).1), x35, x36, (fun qq => List.getD [u0 0, .string (tx ((rput_m h.gid 8).1)), .int .i64 ((rput_m h.gid 8).2), .int .i64 ((x26 : Nat) : Int), .bool (decide (x26 < 5)), .int .i64 ((x26 : Nat) : Int), .int .i64 (((x26 + 1) : Nat) : Int), .tuple #[.string (tx ((rput_m h.gid 8).1)), .int .i64 ((rput_m h.gid 8).2)], .int .i64 ((x26 : Nat) : Int), .pointer (some ⟨g15, 2, none⟩), .int .i64 (h.gid), .int .i64 ((x26 : Nat) : Int), .pointer (some ⟨g21, 2, none⟩), .int .i64 8, .tuple #[.string (tx ((rput_m h.gid 8).1)), .int .i64 ((rput_m h.gid 8).2)], .string (tx ((rput_m h.gid 8).1)), .int .i64 ((rput_m h.gid 8).2), .int .i64 ((rput_m h.gid 8).2), .bool (decide (¬ (rput_m h.gid 8).2 = 0)), u0 19, u0 20, .int .i64 ((x26 : Nat) : Int), .string (tx ((rput_m h.gid 8).1)), .pointer (some ⟨g11, 2, none⟩)] qq undef), rfl, (by first | omega | (simp; omega) | (simp at *; omega)), (hi39.trans (show rnums_m_b0 h (rnums_m_l0 h k38) x26 x27 x28 x29 x30 x31 x32 x33 x34 x35 x36 = rnums_m_l0 h k38 ((x26 + 1), x27, x28, x29, x30, x31, x32, x33, ((rput_m h.gid 8).1), x35, x36) from by unfold rnums_m_b0; rw [if_pos hc59, if_neg hx64, if_neg hx78, if_pos hx92, if_neg hc98] <;> rfl)), (by first | omega | (simp; done) | (simp; omega) | (simp at *; omega)), rfl, hm105⟩ ?_)
      omega
    by_cases hx106 : x26 = 3
    · refine tk 1 28 (.pointer (some ⟨g15, 3, none⟩)) rfl rfl (fun _ hw => Sx.r_ix g15 3 (by decide) Tryd.underlying51 sz_3 rfl rfl (show (Value.int .i64 ((x26 : Nat) : Int)) = .int .i64 (((3 : Nat)) : Int) from by congr 1; omega)) (⟨hm62.at 3 rfl, hm62.at 4 rfl⟩) ?_
      simp only [nz1, nz2, nz3]
      refine tk 2 29 (.int .i64 (h.size)) rfl rfl (fun _ hw => r_load hw.1 rfl Tryd.underlying3 rfl rfl rfl) (⟨hm62.at 3 rfl, hm62.at 4 rfl⟩) ?_
      simp only [nz1, nz2, nz3]
      refine tk 3 30 (.int .i64 ((x26 : Nat) : Int)) rfl rfl (fun _ hw => run_mv rfl rfl) (⟨hm62.at 3 rfl, hm62.at 4 rfl⟩) ?_
      simp only [nz1, nz2, nz3]
      refine tk 4 31 (.pointer (some ⟨g21, 3, none⟩)) rfl rfl (fun _ hw => Sx.r_ix g21 3 (by decide) Tryd.underlying51 sz_3 rfl rfl (show (Value.int .i64 ((x26 : Nat) : Int)) = .int .i64 (((3 : Nat)) : Int) from by congr 1; omega)) (⟨hm62.at 3 rfl, hm62.at 4 rfl⟩) ?_
      simp only [nz1, nz2, nz3]
      refine tk 5 32 (.int .i64 12) rfl rfl (fun _ hw => r_load hw.2 rfl Tryd.underlying3 rfl rfl rfl) (⟨hm62.at 3 rfl, hm62.at 4 rfl⟩) ?_
      simp only [nz1, nz2, nz3]
      refine one_ready 6 (by kernel_rfl) ?_
      refine opd rfl (wanted_none rfl) (m_call hm62 33 (.tuple #[.string (tx ((rput_m h.size 12).1)), .int .i64 ((rput_m h.size 12).2)]) rfl (run_rput rfl rfl rfl) (rput_any h.size 12  _  (by first | omega | assumption | (simp; done) | (simp; omega) | (simp only [List.length_append, List.length_cons, List.length_nil]; omega) | (simp only [List.length_append, List.length_cons, List.length_nil] at *; omega) | decide)) (fun w107 (hm108 : Mm none (fun _ => True) w w107 [.blk g4 #[.string (tx h.name), .int .i64 (h.mode), .int .i64 (h.uid), .int .i64 (h.gid), .int .i64 (h.size), .int .i64 (h.time), .int .u8 ((h.flag.toNat : Nat) : Int), .string (tx h.link), .string (tx h.pfx)] 23, .blk g7 #[.string (tx x27), .string (tx x28), .string (tx x29), .string (tx x30), .string (tx x31)] 56, .blk g11 #[.string (tx x32), .string (tx x33), .string (tx x34), .string (tx x35), .string (tx x36)] 56, .blk g15 #[.int .i64 (h.mode), .int .i64 (h.uid), .int .i64 (h.gid), .int .i64 (h.size), .int .i64 (h.time)] 51, .blk g21 #[.int .i64 8, .int .i64 8, .int .i64 8, .int .i64 12, .int .i64 12] 51]) => ?_))
      have hf109 : (rput_m h.size 12).1.length ≤ 12 := rput_len h.size 12
      refine ⟨⟨hm108.at 3 rfl, hm108.at 4 rfl⟩, ?_⟩
      simp only [nz1, nz2, nz3]
      refine tk 7 26 (.tuple #[.string (tx ((rput_m h.size 12).1)), .int .i64 ((rput_m h.size 12).2)]) rfl rfl (fun _ hw => run_mv rfl rfl) (⟨hm108.at 3 rfl, hm108.at 4 rfl⟩) ?_
      simp only [nz1, nz2, nz3]
      refine tk 8 34 (.string (tx ((rput_m h.size 12).1))) rfl rfl (fun _ hw => run_ex rfl rfl rfl) (⟨hm108.at 3 rfl, hm108.at 4 rfl⟩) ?_
      simp only [nz1, nz2, nz3]
      refine tk 9 35 (.int .i64 ((rput_m h.size 12).2)) rfl rfl (fun _ hw => run_ex rfl rfl rfl) (⟨hm108.at 3 rfl, hm108.at 4 rfl⟩) ?_
      simp only [nz1, nz2, nz3]
      refine one_ready 10 (by kernel_rfl) ?_
      refine opd rfl (wanted_none rfl) (w_value 8 (.string (tx ((rput_m h.size 12).1))) rfl (run_as rfl rfl) ⟨⟨hm108.at 3 rfl, hm108.at 4 rfl⟩, ?_⟩)
      simp only [nz1, nz2, nz3]
      refine one_ready 11 (by kernel_rfl) ?_
      refine opd rfl (wanted_none rfl) (w_value 9 (.int .i64 ((rput_m h.size 12).2)) rfl (run_as rfl rfl) ⟨⟨hm108.at 3 rfl, hm108.at 4 rfl⟩, ?_⟩)
      simp only [nz1, nz2, nz3]
      refine wpAnyH_done (by kernel_rfl) ?_ _
      refine then_n (hK61 _ _ ?_)
      refine wp_seq_k (fun K110 hK110 => ?_)
      refine wp_seq_k (fun K111 hK111 => ?_)
      refine wp_region_lit ?_
      refine lvw 36 (.int .i64 ((rput_m h.size 12).2)) rfl rfl (run_mv rfl rfl) ?_
      simp only [nz1, nz2, nz3]
      refine lvw 37 (.bool (decide (¬ (rput_m h.size 12).2 = 0))) rfl rfl (z_neq ((rput_m h.size 12).2) 0 rfl rfl rfl) ?_
      simp only [nz1, nz2, nz3]
      refine wpList_nil ?_
      refine then_n (hK111 _ _ ?_)
      refine cond_d (¬ (rput_m h.size 12).2 = 0) rfl (fun hc112 => ?_) (fun hc112 => ?_)
      · refine wp_seq_k (fun K113 hK113 => ?_)
        refine wp_region_lit ?_
        refine lvw 38 (.agg #[.string (tx x32), .string (tx x33), .string (tx x34), .string (tx x35), .string (tx x36)]) rfl rfl (r_whole (hm108.at 2 rfl) Tryd.underlying56 rfl (by exact sz_56) rfl rfl) ?_
        simp only [nz1, nz2, nz3]
        refine lvw 39 (.int .i64 ((rput_m h.size 12).2)) rfl rfl (run_mv rfl rfl) ?_
        simp only [nz1, nz2, nz3]
        refine lst rfl (m_store 1 56 _ _ 0 (.agg #[.string (tx x32), .string (tx x33), .string (tx x34), .string (tx x35), .string (tx x36)]) (old := #[.string (tx x27), .string (tx x28), .string (tx x29), .string (tx x30), .string (tx x31)]) (new := #[.string (tx x32), .string (tx x33), .string (tx x34), .string (tx x35), .string (tx x36)]) hm108 rfl rfl rfl rfl rfl (by exact sz_56) (show 0 + 5 ≤ 5 from by decide) (by simp [Value.cells, Value.oneCell']) rfl (fun w114 (hm115 : Mm none (fun _ => True) w w114 [.blk g4 #[.string (tx h.name), .int .i64 (h.mode), .int .i64 (h.uid), .int .i64 (h.gid), .int .i64 (h.size), .int .i64 (h.time), .int .u8 ((h.flag.toNat : Nat) : Int), .string (tx h.link), .string (tx h.pfx)] 23, .blk g7 #[.string (tx x32), .string (tx x33), .string (tx x34), .string (tx x35), .string (tx x36)] 56, .blk g11 #[.string (tx x32), .string (tx x33), .string (tx x34), .string (tx x35), .string (tx x36)] 56, .blk g15 #[.int .i64 (h.mode), .int .i64 (h.uid), .int .i64 (h.gid), .int .i64 (h.size), .int .i64 (h.time)] 51, .blk g21 #[.int .i64 8, .int .i64 8, .int .i64 8, .int .i64 12, .int .i64 12] 51]) => ?_))
        refine lvw 3 (.int .i64 ((rput_m h.size 12).2)) rfl rfl (run_as rfl rfl) ?_
        simp only [nz1, nz2, nz3]
        refine wpList_nil ?_
        refine then_n (hK113 _ _ ?_)
        refine wp_ret ?_
        refine then_r ?_
        refine blk_r ?_
        refine then_r ?_
        refine then_r ?_
        refine blk_r ?_
        refine then_r ?_
        refine then_r ?_
        have he116 : rnums_m_l0 h ((5 - 0) + 1) (0, ([]), ([]), ([]), ([]), ([]), ([]), ([]), ([]), ([]), ([])) = .inr ((A56.mk x32 x33 x34 x35 x36), (rput_m h.size 12).2) := (hi39.trans (show rnums_m_b0 h (rnums_m_l0 h k38) x26 x27 x28 x29 x30 x31 x32 x33 x34 x35 x36 = .inr ((A56.mk x32 x33 x34 x35 x36), (rput_m h.size 12).2) from by unfold rnums_m_b0; rw [if_pos hc59, if_neg hx64, if_neg hx78, if_neg hx92, if_pos hx106, if_pos hc112] <;> rfl))
        have he117 : rnums_m h = ((A56.mk x32 x33 x34 x35 x36), (rput_m h.size 12).2) := (show rnums_m h = ((A56.mk x32 x33 x34 x35 x36), (rput_m h.size 12).2) from by unfold rnums_m; rw [he116] <;> rfl)
        exact ⟨rfl, .tuple #[.agg #[.string (tx x32), .string (tx x33), .string (tx x34), .string (tx x35), .string (tx x36)], .int .i64 ((rput_m h.size 12).2)], Mem.res_ct rfl rfl (hm115.at 1 rfl) Tryd.underlying56 rfl (by exact sz_56) rfl, ⟨by (rw [he117]; try rfl), hm115.below⟩⟩
      refine wp_skip ?_
      refine then_n (hK110 _ _ ?_)
      refine wp_region_lit ?_
      refine lvw 40 (.int .i64 ((x26 : Nat) : Int)) rfl rfl (run_mv rfl rfl) ?_
      simp only [nz1, nz2, nz3]
      refine lvw 41 (.string (tx ((rput_m h.size 12).1))) rfl rfl (run_mv rfl rfl) ?_
      simp only [nz1, nz2, nz3]
      refine lvw 42 (.pointer (some ⟨g11, 3, none⟩)) rfl rfl (Sx.r_ix g11 3 (by decide) Tryd.underlying56 sz_9 rfl rfl (show (Value.int .i64 ((x26 : Nat) : Int)) = .int .i64 (((3 : Nat)) : Int) from by congr 1; omega)) ?_
      simp only [nz1, nz2, nz3]
      refine lst rfl (m_store 2 9 _ _ 3 (.string (tx ((rput_m h.size 12).1))) (old := #[.string (tx x32), .string (tx x33), .string (tx x34), .string (tx x35), .string (tx x36)]) (new := #[.string (tx x32), .string (tx x33), .string (tx x34), .string (tx ((rput_m h.size 12).1)), .string (tx x36)]) hm108 rfl rfl rfl rfl rfl (by exact sz_9) (show 3 + 1 ≤ 5 from by decide) (one_all rfl) rfl (fun w118 (hm119 : Mm none (fun _ => True) w w118 [.blk g4 #[.string (tx h.name), .int .i64 (h.mode), .int .i64 (h.uid), .int .i64 (h.gid), .int .i64 (h.size), .int .i64 (h.time), .int .u8 ((h.flag.toNat : Nat) : Int), .string (tx h.link), .string (tx h.pfx)] 23, .blk g7 #[.string (tx x27), .string (tx x28), .string (tx x29), .string (tx x30), .string (tx x31)] 56, .blk g11 #[.string (tx x32), .string (tx x33), .string (tx x34), .string (tx ((rput_m h.size 12).1)), .string (tx x36)] 56, .blk g15 #[.int .i64 (h.mode), .int .i64 (h.uid), .int .i64 (h.gid), .int .i64 (h.size), .int .i64 (h.time)] 51, .blk g21 #[.int .i64 8, .int .i64 8, .int .i64 8, .int .i64 12, .int .i64 12] 51]) => ?_))
      refine wpList_nil ?_
      refine blk_n ?_
      refine then_n (hK60 _ _ ?_)
      refine wp_region_lit ?_
      refine lvw 24 (.int .i64 ((x26 : Nat) : Int)) rfl rfl (run_mv rfl rfl) ?_
      simp only [nz1, nz2, nz3]
      refine lvw 25 (.int .i64 (((x26 + 1) : Nat) : Int)) rfl rfl (r_add x26 1 (show (x26 + 1) < 9223372036854775808 from by omega) rfl rfl rfl) ?_
      simp only [nz1, nz2, nz3]
      refine lvw 7 (.int .i64 (((x26 + 1) : Nat) : Int)) rfl rfl (run_as rfl rfl) ?_
      simp only [nz1, nz2, nz3]
      refine wpList_nil ?_
      refine then_n (hR54 _ _ _ ⟨k38, (x26 + 1), x27, x28, x29, x30, x31, x32, x33, x34, ((rput_m h.size 12).1), x36, (fun qq => List.getD [u0 0, .string (tx ((rput_m h.size 12).1)), .int .i64 ((rput_m h.size 12).2), .int .i64 ((x26 : Nat) : Int), .bool (decide (x26 < 5)), .int .i64 ((x26 : Nat) : Int), .int .i64 (((x26 + 1) : Nat) : Int), .tuple #[.string (tx ((rput_m h.size 12).1)), .int .i64 ((rput_m h.size 12).2)], .int .i64 ((x26 : Nat) : Int), .pointer (some ⟨g15, 3, none⟩), .int .i64 (h.size), .int .i64 ((x26 : Nat) : Int), .pointer (some ⟨g21, 3, none⟩), .int .i64 12, .tuple #[.string (tx ((rput_m h.size 12).1)), .int .i64 ((rput_m h.size 12).2)], .string (tx ((rput_m h.size 12).1)), .int .i64 ((rput_m h.size 12).2), .int .i64 ((rput_m h.size 12).2), .bool (decide (¬ (rput_m h.size 12).2 = 0)), u0 19, u0 20, .int .i64 ((x26 : Nat) : Int), .string (tx ((rput_m h.size 12).1)), .pointer (some ⟨g11, 3, none⟩)] qq undef), rfl, (by first | omega | (simp; omega) | (simp at *; omega)), (hi39.trans (show rnums_m_b0 h (rnums_m_l0 h k38) x26 x27 x28 x29 x30 x31 x32 x33 x34 x35 x36 = rnums_m_l0 h k38 ((x26 + 1), x27, x28, x29, x30, x31, x32, x33, x34, ((rput_m h.size 12).1), x36) from by unfold rnums_m_b0; rw [if_pos hc59, if_neg hx64, if_neg hx78, if_neg hx92, if_pos hx106, if_neg hc112] <;> rfl)), (by first | omega | (simp; done) | (simp; omega) | (simp at *; omega)), rfl, hm119⟩ ?_)
      omega
    have hx120 : x26 = 4 := by omega
    refine tk 1 28 (.pointer (some ⟨g15, 4, none⟩)) rfl rfl (fun _ hw => Sx.r_ix g15 4 (by decide) Tryd.underlying51 sz_3 rfl rfl (show (Value.int .i64 ((x26 : Nat) : Int)) = .int .i64 (((4 : Nat)) : Int) from by congr 1; omega)) (⟨hm62.at 3 rfl, hm62.at 4 rfl⟩) ?_
    simp only [nz1, nz2, nz3]
    refine tk 2 29 (.int .i64 (h.time)) rfl rfl (fun _ hw => r_load hw.1 rfl Tryd.underlying3 rfl rfl rfl) (⟨hm62.at 3 rfl, hm62.at 4 rfl⟩) ?_
    simp only [nz1, nz2, nz3]
    refine tk 3 30 (.int .i64 ((x26 : Nat) : Int)) rfl rfl (fun _ hw => run_mv rfl rfl) (⟨hm62.at 3 rfl, hm62.at 4 rfl⟩) ?_
    simp only [nz1, nz2, nz3]
    refine tk 4 31 (.pointer (some ⟨g21, 4, none⟩)) rfl rfl (fun _ hw => Sx.r_ix g21 4 (by decide) Tryd.underlying51 sz_3 rfl rfl (show (Value.int .i64 ((x26 : Nat) : Int)) = .int .i64 (((4 : Nat)) : Int) from by congr 1; omega)) (⟨hm62.at 3 rfl, hm62.at 4 rfl⟩) ?_
    simp only [nz1, nz2, nz3]
    refine tk 5 32 (.int .i64 12) rfl rfl (fun _ hw => r_load hw.2 rfl Tryd.underlying3 rfl rfl rfl) (⟨hm62.at 3 rfl, hm62.at 4 rfl⟩) ?_
    simp only [nz1, nz2, nz3]
    refine one_ready 6 (by kernel_rfl) ?_
    refine opd rfl (wanted_none rfl) (m_call hm62 33 (.tuple #[.string (tx ((rput_m h.time 12).1)), .int .i64 ((rput_m h.time 12).2)]) rfl (run_rput rfl rfl rfl) (rput_any h.time 12  _  (by first | omega | assumption | (simp; done) | (simp; omega) | (simp only [List.length_append, List.length_cons, List.length_nil]; omega) | (simp only [List.length_append, List.length_cons, List.length_nil] at *; omega) | decide)) (fun w121 (hm122 : Mm none (fun _ => True) w w121 [.blk g4 #[.string (tx h.name), .int .i64 (h.mode), .int .i64 (h.uid), .int .i64 (h.gid), .int .i64 (h.size), .int .i64 (h.time), .int .u8 ((h.flag.toNat : Nat) : Int), .string (tx h.link), .string (tx h.pfx)] 23, .blk g7 #[.string (tx x27), .string (tx x28), .string (tx x29), .string (tx x30), .string (tx x31)] 56, .blk g11 #[.string (tx x32), .string (tx x33), .string (tx x34), .string (tx x35), .string (tx x36)] 56, .blk g15 #[.int .i64 (h.mode), .int .i64 (h.uid), .int .i64 (h.gid), .int .i64 (h.size), .int .i64 (h.time)] 51, .blk g21 #[.int .i64 8, .int .i64 8, .int .i64 8, .int .i64 12, .int .i64 12] 51]) => ?_))
    have hf123 : (rput_m h.time 12).1.length ≤ 12 := rput_len h.time 12
    refine ⟨⟨hm122.at 3 rfl, hm122.at 4 rfl⟩, ?_⟩
    simp only [nz1, nz2, nz3]
    refine tk 7 26 (.tuple #[.string (tx ((rput_m h.time 12).1)), .int .i64 ((rput_m h.time 12).2)]) rfl rfl (fun _ hw => run_mv rfl rfl) (⟨hm122.at 3 rfl, hm122.at 4 rfl⟩) ?_
    simp only [nz1, nz2, nz3]
    refine tk 8 34 (.string (tx ((rput_m h.time 12).1))) rfl rfl (fun _ hw => run_ex rfl rfl rfl) (⟨hm122.at 3 rfl, hm122.at 4 rfl⟩) ?_
    simp only [nz1, nz2, nz3]
    refine tk 9 35 (.int .i64 ((rput_m h.time 12).2)) rfl rfl (fun _ hw => run_ex rfl rfl rfl) (⟨hm122.at 3 rfl, hm122.at 4 rfl⟩) ?_
    simp only [nz1, nz2, nz3]
    refine one_ready 10 (by kernel_rfl) ?_
    refine opd rfl (wanted_none rfl) (w_value 8 (.string (tx ((rput_m h.time 12).1))) rfl (run_as rfl rfl) ⟨⟨hm122.at 3 rfl, hm122.at 4 rfl⟩, ?_⟩)
    simp only [nz1, nz2, nz3]
    refine one_ready 11 (by kernel_rfl) ?_
    refine opd rfl (wanted_none rfl) (w_value 9 (.int .i64 ((rput_m h.time 12).2)) rfl (run_as rfl rfl) ⟨⟨hm122.at 3 rfl, hm122.at 4 rfl⟩, ?_⟩)
    simp only [nz1, nz2, nz3]
    refine wpAnyH_done (by kernel_rfl) ?_ _
    refine then_n (hK61 _ _ ?_)
    refine wp_seq_k (fun K124 hK124 => ?_)
    refine wp_seq_k (fun K125 hK125 => ?_)
    refine wp_region_lit ?_
    refine lvw 36 (.int .i64 ((rput_m h.time 12).2)) rfl rfl (run_mv rfl rfl) ?_
    simp only [nz1, nz2, nz3]
    refine lvw 37 (.bool (decide (¬ (rput_m h.time 12).2 = 0))) rfl rfl (z_neq ((rput_m h.time 12).2) 0 rfl rfl rfl) ?_
    simp only [nz1, nz2, nz3]
    refine wpList_nil ?_
    refine then_n (hK125 _ _ ?_)
    refine cond_d (¬ (rput_m h.time 12).2 = 0) rfl (fun hc126 => ?_) (fun hc126 => ?_)
    · refine wp_seq_k (fun K127 hK127 => ?_)
      refine wp_region_lit ?_
      refine lvw 38 (.agg #[.string (tx x32), .string (tx x33), .string (tx x34), .string (tx x35), .string (tx x36)]) rfl rfl (r_whole (hm122.at 2 rfl) Tryd.underlying56 rfl (by exact sz_56) rfl rfl) ?_
      simp only [nz1, nz2, nz3]
      refine lvw 39 (.int .i64 ((rput_m h.time 12).2)) rfl rfl (run_mv rfl rfl) ?_
      simp only [nz1, nz2, nz3]
      refine lst rfl (m_store 1 56 _ _ 0 (.agg #[.string (tx x32), .string (tx x33), .string (tx x34), .string (tx x35), .string (tx x36)]) (old := #[.string (tx x27), .string (tx x28), .string (tx x29), .string (tx x30), .string (tx x31)]) (new := #[.string (tx x32), .string (tx x33), .string (tx x34), .string (tx x35), .string (tx x36)]) hm122 rfl rfl rfl rfl rfl (by exact sz_56) (show 0 + 5 ≤ 5 from by decide) (by simp [Value.cells, Value.oneCell']) rfl (fun w128 (hm129 : Mm none (fun _ => True) w w128 [.blk g4 #[.string (tx h.name), .int .i64 (h.mode), .int .i64 (h.uid), .int .i64 (h.gid), .int .i64 (h.size), .int .i64 (h.time), .int .u8 ((h.flag.toNat : Nat) : Int), .string (tx h.link), .string (tx h.pfx)] 23, .blk g7 #[.string (tx x32), .string (tx x33), .string (tx x34), .string (tx x35), .string (tx x36)] 56, .blk g11 #[.string (tx x32), .string (tx x33), .string (tx x34), .string (tx x35), .string (tx x36)] 56, .blk g15 #[.int .i64 (h.mode), .int .i64 (h.uid), .int .i64 (h.gid), .int .i64 (h.size), .int .i64 (h.time)] 51, .blk g21 #[.int .i64 8, .int .i64 8, .int .i64 8, .int .i64 12, .int .i64 12] 51]) => ?_))
      refine lvw 3 (.int .i64 ((rput_m h.time 12).2)) rfl rfl (run_as rfl rfl) ?_
      simp only [nz1, nz2, nz3]
      refine wpList_nil ?_
      refine then_n (hK127 _ _ ?_)
      refine wp_ret ?_
      refine then_r ?_
      refine blk_r ?_
      refine then_r ?_
      refine then_r ?_
      refine blk_r ?_
      refine then_r ?_
      refine then_r ?_
      have he130 : rnums_m_l0 h ((5 - 0) + 1) (0, ([]), ([]), ([]), ([]), ([]), ([]), ([]), ([]), ([]), ([])) = .inr ((A56.mk x32 x33 x34 x35 x36), (rput_m h.time 12).2) := (hi39.trans (show rnums_m_b0 h (rnums_m_l0 h k38) x26 x27 x28 x29 x30 x31 x32 x33 x34 x35 x36 = .inr ((A56.mk x32 x33 x34 x35 x36), (rput_m h.time 12).2) from by unfold rnums_m_b0; rw [if_pos hc59, if_neg hx64, if_neg hx78, if_neg hx92, if_neg hx106, if_pos hc126] <;> rfl))
      have he131 : rnums_m h = ((A56.mk x32 x33 x34 x35 x36), (rput_m h.time 12).2) := (show rnums_m h = ((A56.mk x32 x33 x34 x35 x36), (rput_m h.time 12).2) from by unfold rnums_m; rw [he130] <;> rfl)
      exact ⟨rfl, .tuple #[.agg #[.string (tx x32), .string (tx x33), .string (tx x34), .string (tx x35), .string (tx x36)], .int .i64 ((rput_m h.time 12).2)], Mem.res_ct rfl rfl (hm129.at 1 rfl) Tryd.underlying56 rfl (by exact sz_56) rfl, ⟨by (rw [he131]; try rfl), hm129.below⟩⟩
    refine wp_skip ?_
    refine then_n (hK124 _ _ ?_)
    refine wp_region_lit ?_
    refine lvw 40 (.int .i64 ((x26 : Nat) : Int)) rfl rfl (run_mv rfl rfl) ?_
    simp only [nz1, nz2, nz3]
    refine lvw 41 (.string (tx ((rput_m h.time 12).1))) rfl rfl (run_mv rfl rfl) ?_
    simp only [nz1, nz2, nz3]
    refine lvw 42 (.pointer (some ⟨g11, 4, none⟩)) rfl rfl (Sx.r_ix g11 4 (by decide) Tryd.underlying56 sz_9 rfl rfl (show (Value.int .i64 ((x26 : Nat) : Int)) = .int .i64 (((4 : Nat)) : Int) from by congr 1; omega)) ?_
    simp only [nz1, nz2, nz3]
    refine lst rfl (m_store 2 9 _ _ 4 (.string (tx ((rput_m h.time 12).1))) (old := #[.string (tx x32), .string (tx x33), .string (tx x34), .string (tx x35), .string (tx x36)]) (new := #[.string (tx x32), .string (tx x33), .string (tx x34), .string (tx x35), .string (tx ((rput_m h.time 12).1))]) hm122 rfl rfl rfl rfl rfl (by exact sz_9) (show 4 + 1 ≤ 5 from by decide) (one_all rfl) rfl (fun w132 (hm133 : Mm none (fun _ => True) w w132 [.blk g4 #[.string (tx h.name), .int .i64 (h.mode), .int .i64 (h.uid), .int .i64 (h.gid), .int .i64 (h.size), .int .i64 (h.time), .int .u8 ((h.flag.toNat : Nat) : Int), .string (tx h.link), .string (tx h.pfx)] 23, .blk g7 #[.string (tx x27), .string (tx x28), .string (tx x29), .string (tx x30), .string (tx x31)] 56, .blk g11 #[.string (tx x32), .string (tx x33), .string (tx x34), .string (tx x35), .string (tx ((rput_m h.time 12).1))] 56, .blk g15 #[.int .i64 (h.mode), .int .i64 (h.uid), .int .i64 (h.gid), .int .i64 (h.size), .int .i64 (h.time)] 51, .blk g21 #[.int .i64 8, .int .i64 8, .int .i64 8, .int .i64 12, .int .i64 12] 51]) => ?_))
    refine wpList_nil ?_
    refine blk_n ?_
    refine then_n (hK60 _ _ ?_)
    refine wp_region_lit ?_
    refine lvw 24 (.int .i64 ((x26 : Nat) : Int)) rfl rfl (run_mv rfl rfl) ?_
    simp only [nz1, nz2, nz3]
    refine lvw 25 (.int .i64 (((x26 + 1) : Nat) : Int)) rfl rfl (r_add x26 1 (show (x26 + 1) < 9223372036854775808 from by omega) rfl rfl rfl) ?_
    simp only [nz1, nz2, nz3]
    refine lvw 7 (.int .i64 (((x26 + 1) : Nat) : Int)) rfl rfl (run_as rfl rfl) ?_
    simp only [nz1, nz2, nz3]
    refine wpList_nil ?_
    refine then_n (hR54 _ _ _ ⟨k38, (x26 + 1), x27, x28, x29, x30, x31, x32, x33, x34, x35, ((rput_m h.time 12).1), (fun qq => List.getD [u0 0, .string (tx ((rput_m h.time 12).1)), .int .i64 ((rput_m h.time 12).2), .int .i64 ((x26 : Nat) : Int), .bool (decide (x26 < 5)), .int .i64 ((x26 : Nat) : Int), .int .i64 (((x26 + 1) : Nat) : Int), .tuple #[.string (tx ((rput_m h.time 12).1)), .int .i64 ((rput_m h.time 12).2)], .int .i64 ((x26 : Nat) : Int), .pointer (some ⟨g15, 4, none⟩), .int .i64 (h.time), .int .i64 ((x26 : Nat) : Int), .pointer (some ⟨g21, 4, none⟩), .int .i64 12, .tuple #[.string (tx ((rput_m h.time 12).1)), .int .i64 ((rput_m h.time 12).2)], .string (tx ((rput_m h.time 12).1)), .int .i64 ((rput_m h.time 12).2), .int .i64 ((rput_m h.time 12).2), .bool (decide (¬ (rput_m h.time 12).2 = 0)), u0 19, u0 20, .int .i64 ((x26 : Nat) : Int), .string (tx ((rput_m h.time 12).1)), .pointer (some ⟨g11, 4, none⟩)] qq undef), rfl, (by first | omega | (simp; omega) | (simp at *; omega)), (hi39.trans (show rnums_m_b0 h (rnums_m_l0 h k38) x26 x27 x28 x29 x30 x31 x32 x33 x34 x35 x36 = rnums_m_l0 h k38 ((x26 + 1), x27, x28, x29, x30, x31, x32, x33, x34, x35, ((rput_m h.time 12).1)) from by unfold rnums_m_b0; rw [if_pos hc59, if_neg hx64, if_neg hx78, if_neg hx92, if_neg hx106, if_neg hc126] <;> rfl)), (by first | omega | (simp; done) | (simp; omega) | (simp at *; omega)), rfl, hm133⟩ ?_)
    omega
  rintro _ w134 ⟨y40, y41, y42, y43, y44, y45, y46, y47, y48, y49, y50, yu0, hx51, hnb, rfl, hm135⟩
  have hq136 : rnums_m h = rnums_m_k0 h y40 y41 y42 y43 y44 y45 y46 y47 y48 y49 y50 := (show rnums_m h = rnums_m_k0 h y40 y41 y42 y43 y44 y45 y46 y47 y48 y49 y50 from by unfold rnums_m; rw [hx51] <;> rfl)
  refine then_n (hK24 _ _ ?_)
  refine wp_seq_k (fun K137 hK137 => ?_)
  refine wp_region_lit ?_
  refine lvw 43 (.agg #[.string (tx y46), .string (tx y47), .string (tx y48), .string (tx y49), .string (tx y50)]) rfl rfl (r_whole (hm135.at 2 rfl) Tryd.underlying56 rfl (by exact sz_56) rfl rfl) ?_
  simp only [nz1, nz2, nz3]
  refine lst rfl (m_store 1 56 _ _ 0 (.agg #[.string (tx y46), .string (tx y47), .string (tx y48), .string (tx y49), .string (tx y50)]) (old := #[.string (tx y41), .string (tx y42), .string (tx y43), .string (tx y44), .string (tx y45)]) (new := #[.string (tx y46), .string (tx y47), .string (tx y48), .string (tx y49), .string (tx y50)]) hm135 rfl rfl rfl rfl rfl (by exact sz_56) (show 0 + 5 ≤ 5 from by decide) (by simp [Value.cells, Value.oneCell']) rfl (fun w138 (hm139 : Mm none (fun _ => True) w w138 [.blk g4 #[.string (tx h.name), .int .i64 (h.mode), .int .i64 (h.uid), .int .i64 (h.gid), .int .i64 (h.size), .int .i64 (h.time), .int .u8 ((h.flag.toNat : Nat) : Int), .string (tx h.link), .string (tx h.pfx)] 23, .blk g7 #[.string (tx y46), .string (tx y47), .string (tx y48), .string (tx y49), .string (tx y50)] 56, .blk g11 #[.string (tx y46), .string (tx y47), .string (tx y48), .string (tx y49), .string (tx y50)] 56, .blk g15 #[.int .i64 (h.mode), .int .i64 (h.uid), .int .i64 (h.gid), .int .i64 (h.size), .int .i64 (h.time)] 51, .blk g21 #[.int .i64 8, .int .i64 8, .int .i64 8, .int .i64 12, .int .i64 12] 51]) => ?_))
  refine lvw 3 (.int .i64 0) rfl rfl (run_as rfl rfl) ?_
  simp only [nz1, nz2, nz3]
  refine wpList_nil ?_
  refine then_n (hK137 _ _ ?_)
  refine wp_ret ?_
  have he140 : rnums_m h = ((A56.mk y46 y47 y48 y49 y50), 0) := (hq136.trans (show rnums_m_k0 h y40 y41 y42 y43 y44 y45 y46 y47 y48 y49 y50 = ((A56.mk y46 y47 y48 y49 y50), 0) from by unfold rnums_m_k0; rfl))
  exact ⟨rfl, .tuple #[.agg #[.string (tx y46), .string (tx y47), .string (tx y48), .string (tx y49), .string (tx y50)], .int .i64 0], Mem.res_ct rfl rfl (hm139.at 1 rfl) Tryd.underlying56 rfl (by exact sz_56) rfl, ⟨by (rw [he140]; try rfl), hm139.below⟩⟩
theorem run_rnums {o : Oper} {a : Act} {w : World} {x0 : Operand} {v0 : Value} (ho : o.op = .call { callee := .value (.func 39), args := #[x0], argTypes := #[23] }) (h0 : a.eval x0 = v0) :
    (execOp a.eval o).run Tryd.prog w = .ok (.enter 39 #[v0]) w := by
  unfold execOp
  simp only [ho]
  have hf : a.eval (.func 39) = .func (.func 39) #[] #[] := rfl
  generalize a.eval = f at *
  go_simp
end Go.Proofs.YtglnifckngcpkaaDoor.Hd
