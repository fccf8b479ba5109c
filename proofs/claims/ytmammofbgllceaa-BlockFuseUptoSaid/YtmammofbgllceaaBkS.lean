/- Layer 15: BlockFuse. -/
import Derived.Test.YtmammofbgllceaaBkW
namespace Go.Proofs.Ytmammofbgllceaa.Bk
open Go.RowKit
open Go.Proofs.Ytmammofbgllceaa.Sym Go.Proofs.Ytmammofbgllceaa.Mem
open Go.Proofs.Ytmammofbgllceaa.Sx hiding Mm m_alloc m_store m_put m_call m_callx m_make m_append r_string r_ixS
set_option linter.unusedVariables false
attribute [local irreducible] wpList Oper.wp

def fuse_m_b0 (d : Dk) (fuse : UInt8) (l : List Wr) (rec : Nat × Nat × (List (List UInt8)) × (List Wr) × Int × Bool → Sum (Nat × Nat × (List (List UInt8)) × (List Wr) × Int × Bool) (Bool)) (x30 : Nat) (x31 : Nat) (l32 : List (List UInt8)) (l36 : List Wr) (x40 : Int) (x41 : Bool) : Sum (Nat × Nat × (List (List UInt8)) × (List Wr) × Int × Bool) (Bool) :=
  if x31 < l.length then
    if (put_m (Dk.mk l32 l36 x40 x41) ((l.getD x31 dWr).at_) ((l.getD x31 dWr).data)).2 = 0 then
      rec ((x30 + 1), (x31 + 1), (((put_m (Dk.mk l32 l36 x40 x41) ((l.getD x31 dWr).at_) ((l.getD x31 dWr).data)).1).safe), (((put_m (Dk.mk l32 l36 x40 x41) ((l.getD x31 dWr).at_) ((l.getD x31 dWr).data)).1).loose), ((put_m (Dk.mk l32 l36 x40 x41) ((l.getD x31 dWr).at_) ((l.getD x31 dWr).data)).1).fuse, (((put_m (Dk.mk l32 l36 x40 x41) ((l.getD x31 dWr).at_) ((l.getD x31 dWr).data)).1).down))
    else
      if (put_m (Dk.mk l32 l36 x40 x41) ((l.getD x31 dWr).at_) ((l.getD x31 dWr).data)).2 = 11 then
        if ¬ x30 = fuse.toNat then
          .inr false
        else
          if (!(((put_m (Dk.mk l32 l36 x40 x41) ((l.getD x31 dWr).at_) ((l.getD x31 dWr).data)).1).down)) = true then
            .inr false
          else
            rec (x30, (x31 + 1), (((put_m (Dk.mk l32 l36 x40 x41) ((l.getD x31 dWr).at_) ((l.getD x31 dWr).data)).1).safe), (((put_m (Dk.mk l32 l36 x40 x41) ((l.getD x31 dWr).at_) ((l.getD x31 dWr).data)).1).loose), ((put_m (Dk.mk l32 l36 x40 x41) ((l.getD x31 dWr).at_) ((l.getD x31 dWr).data)).1).fuse, (((put_m (Dk.mk l32 l36 x40 x41) ((l.getD x31 dWr).at_) ((l.getD x31 dWr).data)).1).down))
      else
        if (put_m (Dk.mk l32 l36 x40 x41) ((l.getD x31 dWr).at_) ((l.getD x31 dWr).data)).2 = 1 then
          if (!(same_m ((put_m (Dk.mk l32 l36 x40 x41) ((l.getD x31 dWr).at_) ((l.getD x31 dWr).data)).1) (Dk.mk l32 l36 x40 x41))) = true then
            .inr false
          else
            rec (x30, (x31 + 1), (((put_m (Dk.mk l32 l36 x40 x41) ((l.getD x31 dWr).at_) ((l.getD x31 dWr).data)).1).safe), (((put_m (Dk.mk l32 l36 x40 x41) ((l.getD x31 dWr).at_) ((l.getD x31 dWr).data)).1).loose), ((put_m (Dk.mk l32 l36 x40 x41) ((l.getD x31 dWr).at_) ((l.getD x31 dWr).data)).1).fuse, (((put_m (Dk.mk l32 l36 x40 x41) ((l.getD x31 dWr).at_) ((l.getD x31 dWr).data)).1).down))
        else
          .inr false
  else
    .inl (x30, x31, l32, l36, x40, x41)
def fuse_m_l0 (d : Dk) (fuse : UInt8) (l : List Wr) : Nat → Nat × Nat × (List (List UInt8)) × (List Wr) × Int × Bool → Sum (Nat × Nat × (List (List UInt8)) × (List Wr) × Int × Bool) (Bool)
  | 0, s => .inl s
  | nq + 1, s => fuse_m_b0 d fuse l (fuse_m_l0 d fuse l nq) s.1 s.2.1 s.2.2.1 s.2.2.2.1 s.2.2.2.2.1 s.2.2.2.2.2

def fuse_m_k0 (d : Dk) (fuse : UInt8) (l : List Wr) (y51 : Nat) (y52 : Nat) (y53 : List (List UInt8)) (y56 : List Wr) (y59 : Int) (y60 : Bool) : Bool :=
  if awake_m = true then
    if y51 ≤ fuse.toNat then
      if y60 = true then
        true
      else
        (decide (y59 = (((fuse.toNat : Nat) : Int) - ((y51 : Nat) : Int))))
    else
      false
  else
    false

def fuse_m (d : Dk) (fuse : UInt8) (l : List Wr) : Bool :=
  if (!(right_m d)) = true then
    awake_m
  else
    if d.down = true then
      awake_m
    else
      if 300 < l.length then
        awake_m
      else
        fin (fuse_m_l0 d fuse l ((l.length - 0) + 1) (0, 0, d.safe, d.loose, ((fuse.toNat : Nat) : Int), d.down)) (fun r => r) (fun s => fuse_m_k0 d fuse l s.1 s.2.1 s.2.2.1 s.2.2.2.1 s.2.2.2.2.1 s.2.2.2.2.2)

set_option maxHeartbeats 4000000 in
set_option maxRecDepth 100000 in
theorem fuse_any (d : Dk) (fuse : UInt8) (l : List Wr) (dv0 dv1 lv0 : Value) (w : World) (hd : DkR d dv0 dv1 w) (hl : Rs eWr 2 l lv0 w) (hp0 : d.safe.length ≤ 16777216) (hp1 : d.loose.length ≤ 16777216) (hp2 : l.length ≤ 16777216) : Calls Try.prog 6 #[.agg #[dv0, dv1, .int .i64 (d.fuse), .bool (d.down)], .int .u8 ((fuse.toNat : Nat) : Int), lv0] w (fun e w' => e = .returned (.bool ((fuse_m d fuse l))) ∧ Below w.heap.size w w') := by
  go_enter Try.func6, Try.ntmps6
  have hm00 := Mm.nil none (fun _ => True) w
  obtain ⟨Fd, hm01⟩ : ∃ Fd, Mm none (fun _ => True) w w [.see (DkR d dv0 dv1) Fd] := hm00.come (DkR_all hd)
  obtain ⟨Fl, hm02⟩ : ∃ Fl, Mm none (fun _ => True) w w [.see (DkR d dv0 dv1) Fd, .see (Rs eWr 2 l lv0) Fl] := hm01.come (Rs.all hl)
  have hm0 := hm02
  refine wp_seq_k (fun K1 hK1 => ?_)
  refine wp_region_lit ?_
  refine lst rfl (m_alloc (c := #[dv0, dv1, .int .i64 (d.fuse), .bool (d.down)]) (T := 25) hm0 3 rfl (run_box rfl rfl) (fun g4 w2 (hm3 : Mm none (fun _ => True) w w2 [.see (DkR d dv0 dv1) Fd, .see (Rs eWr 2 l lv0) Fl, .blk g4 #[dv0, dv1, .int .i64 (d.fuse), .bool (d.down)] 25]) => ?_))
  simp only [nz1, nz2, nz3]
  refine lvw 6 (.bool false) rfl rfl (run_as rfl rfl) ?_
  simp only [nz1, nz2, nz3]
  refine wpList_nil ?_
  refine then_n (hK1 _ _ ?_)
  refine wp_seq_k (fun K5 hK5 => ?_)
  refine wp_seq_k (fun K6 hK6 => ?_)
  refine wp_region_lit ?_
  refine lvw 11 (.agg #[dv0, dv1, .int .i64 (d.fuse), .bool (d.down)]) rfl rfl (r_whole (hm3.at 2 rfl) Try.underlying25 rfl (by exact sz_25) rfl rfl) ?_
  simp only [nz1, nz2, nz3]
  refine lst rfl (m_call hm3 12 (.bool ((right_m d))) rfl (run_right rfl rfl) (right_any d dv0 dv1 _ (hm3.see 0 rfl) (by first | omega | assumption | decide | (simp; done) | (simp; omega))) (fun w7 (hm8 : Mm none (fun _ => True) w w7 [.see (DkR d dv0 dv1) Fd, .see (Rs eWr 2 l lv0) Fl, .blk g4 #[dv0, dv1, .int .i64 (d.fuse), .bool (d.down)] 25]) => ?_))
  simp only [nz1, nz2, nz3]
  refine lvB 13 (!(right_m d)) rfl rfl (r_not (right_m d) rfl rfl) (fun hs9 => ?_) (fun hs9 => ?_)
  · simp only [nz1, nz2, nz3]
    refine lvw 14 (.bool true) rfl rfl (run_mv rfl rfl) ?_
    simp only [nz1, nz2, nz3]
    refine lst_skip 15 rfl rfl ?_
    simp only [nz1, nz2, nz3]
    refine lst_skip 16 rfl rfl ?_
    simp only [nz1, nz2, nz3]
    refine lvw 17 (.bool true) rfl rfl (run_pick rfl rfl rfl) ?_
    simp only [nz1, nz2, nz3]
    refine lvw 18 (.bool true) rfl rfl (run_mv rfl rfl) ?_
    simp only [nz1, nz2, nz3]
    refine lst_skip 19 rfl rfl ?_
    simp only [nz1, nz2, nz3]
    refine lst_skip 20 rfl rfl ?_
    simp only [nz1, nz2, nz3]
    refine lst_skip 21 rfl rfl ?_
    simp only [nz1, nz2, nz3]
    refine lvw 22 (.bool true) rfl rfl (run_pick rfl rfl rfl) ?_
    simp only [nz1, nz2, nz3]
    refine wpList_nil ?_
    refine then_n (hK6 _ _ ?_)
    refine cond_t rfl ?_
    refine wp_seq_k (fun K10 hK10 => ?_)
    refine wp_region_lit ?_
    refine lst rfl (m_call hm8 23 (.bool (awake_m)) rfl (run_awake rfl) (awake_any   _  ) (fun w11 (hm12 : Mm none (fun _ => True) w w11 [.see (DkR d dv0 dv1) Fd, .see (Rs eWr 2 l lv0) Fl, .blk g4 #[dv0, dv1, .int .i64 (d.fuse), .bool (d.down)] 25]) => ?_))
    simp only [nz1, nz2, nz3]
    refine lvw 6 (.bool (awake_m)) rfl rfl (run_as rfl rfl) ?_
    simp only [nz1, nz2, nz3]
    refine wpList_nil ?_
    refine then_n (hK10 _ _ ?_)
    refine wp_ret ?_
    refine then_r ?_
    have he13 : fuse_m d fuse l = awake_m := (show fuse_m d fuse l = awake_m from by unfold fuse_m; rw [if_pos hs9] <;> rfl)
    exact ⟨rfl, .bool (awake_m), res_t rfl rfl, ⟨by rw [he13], hm12.below⟩⟩
  simp only [nz1, nz2, nz3]
  refine lvw 14 (.bool false) rfl rfl (run_mv rfl rfl) ?_
  simp only [nz1, nz2, nz3]
  refine lvw 15 (.pointer (some ⟨g4, 3, none⟩)) rfl rfl (r_fa25_3 g4 0 rfl rfl) ?_
  simp only [nz1, nz2, nz3]
  refine lvB 16 d.down rfl rfl (r_load (hm8.at 2 rfl) rfl Try.underlying4 rfl rfl rfl) (fun hs14 => ?_) (fun hs14 => ?_)
  · simp only [nz1, nz2, nz3]
    refine lvw 17 (.bool true) rfl rfl (run_pickf rfl rfl rfl) ?_
    simp only [nz1, nz2, nz3]
    refine lvw 18 (.bool true) rfl rfl (run_mv rfl rfl) ?_
    simp only [nz1, nz2, nz3]
    refine lst_skip 19 rfl rfl ?_
    simp only [nz1, nz2, nz3]
    refine lst_skip 20 rfl rfl ?_
    simp only [nz1, nz2, nz3]
    refine lst_skip 21 rfl rfl ?_
    simp only [nz1, nz2, nz3]
    refine lvw 22 (.bool true) rfl rfl (run_pick rfl rfl rfl) ?_
    simp only [nz1, nz2, nz3]
    refine wpList_nil ?_
    refine then_n (hK6 _ _ ?_)
    refine cond_t rfl ?_
    refine wp_seq_k (fun K15 hK15 => ?_)
    refine wp_region_lit ?_
    refine lst rfl (m_call hm8 23 (.bool (awake_m)) rfl (run_awake rfl) (awake_any   _  ) (fun w16 (hm17 : Mm none (fun _ => True) w w16 [.see (DkR d dv0 dv1) Fd, .see (Rs eWr 2 l lv0) Fl, .blk g4 #[dv0, dv1, .int .i64 (d.fuse), .bool (d.down)] 25]) => ?_))
    simp only [nz1, nz2, nz3]
    refine lvw 6 (.bool (awake_m)) rfl rfl (run_as rfl rfl) ?_
    simp only [nz1, nz2, nz3]
    refine wpList_nil ?_
    refine then_n (hK15 _ _ ?_)
    refine wp_ret ?_
    refine then_r ?_
    have he18 : fuse_m d fuse l = awake_m := (show fuse_m d fuse l = awake_m from by unfold fuse_m; rw [if_neg hs9, if_pos hs14] <;> rfl)
    exact ⟨rfl, .bool (awake_m), res_t rfl rfl, ⟨by rw [he18], hm17.below⟩⟩
  simp only [nz1, nz2, nz3]
  refine lvw 17 (.bool false) rfl rfl (run_pickf rfl rfl rfl) ?_
  simp only [nz1, nz2, nz3]
  refine lvw 18 (.bool false) rfl rfl (run_mv rfl rfl) ?_
  simp only [nz1, nz2, nz3]
  refine lvw 19 (lv0) rfl rfl (run_mv rfl rfl) ?_
  simp only [nz1, nz2, nz3]
  refine lvw 20 (.int .i64 ((l.length : Nat) : Int)) rfl rfl (s_len ((hm8.see 1 rfl)) rfl Try.underlying23 rfl) ?_
  simp only [nz1, nz2, nz3]
  refine lvw 21 (.bool (decide (300 < l.length))) rfl rfl (r_gtr l.length 300 rfl rfl rfl) ?_
  simp only [nz1, nz2, nz3]
  refine lvw 22 (.bool (decide (300 < l.length))) rfl rfl (run_pickf rfl rfl rfl) ?_
  simp only [nz1, nz2, nz3]
  refine wpList_nil ?_
  refine then_n (hK6 _ _ ?_)
  refine cond_d (300 < l.length) rfl (fun hc19 => ?_) (fun hc19 => ?_)
  · refine wp_seq_k (fun K20 hK20 => ?_)
    refine wp_region_lit ?_
    refine lst rfl (m_call hm8 23 (.bool (awake_m)) rfl (run_awake rfl) (awake_any   _  ) (fun w21 (hm22 : Mm none (fun _ => True) w w21 [.see (DkR d dv0 dv1) Fd, .see (Rs eWr 2 l lv0) Fl, .blk g4 #[dv0, dv1, .int .i64 (d.fuse), .bool (d.down)] 25]) => ?_))
    simp only [nz1, nz2, nz3]
    refine lvw 6 (.bool (awake_m)) rfl rfl (run_as rfl rfl) ?_
    simp only [nz1, nz2, nz3]
    refine wpList_nil ?_
    refine then_n (hK20 _ _ ?_)
    refine wp_ret ?_
    refine then_r ?_
    have he23 : fuse_m d fuse l = awake_m := (show fuse_m d fuse l = awake_m from by unfold fuse_m; rw [if_neg hs9, if_neg hs14, if_pos hc19] <;> rfl)
    exact ⟨rfl, .bool (awake_m), res_t rfl rfl, ⟨by rw [he23], hm22.below⟩⟩
  refine wp_skip ?_
  refine then_n (hK5 _ _ ?_)
  refine wp_seq_k (fun K24 hK24 => ?_)
  refine wp_region_lit ?_
  refine lvw 24 (.int .u8 ((fuse.toNat : Nat) : Int)) rfl rfl (run_mv rfl rfl) ?_
  simp only [nz1, nz2, nz3]
  refine lvw 25 (.int .i64 ((fuse.toNat : Nat) : Int)) rfl rfl (r_conv (k' := .i64) fuse.toNat fuse.toNat some_5 Try.underlying3 (wrap_nat (by have := fuse.toNat_lt; show _ < 9223372036854775808; omega)) rfl rfl) ?_
  simp only [nz1, nz2, nz3]
  refine lvw 26 (.pointer (some ⟨g4, 2, none⟩)) rfl rfl (r_fa25_2 g4 0 rfl rfl) ?_
  simp only [nz1, nz2, nz3]
  refine lst rfl (m_store 2 3 _ _ 2 (.int .i64 ((fuse.toNat : Nat) : Int)) (old := #[dv0, dv1, .int .i64 (d.fuse), .bool (d.down)]) (new := #[dv0, dv1, .int .i64 ((fuse.toNat : Nat) : Int), .bool (d.down)]) hm8 rfl rfl rfl rfl rfl (by exact sz_3) (show 2 + 1 ≤ 4 from by decide) (one_all rfl) rfl (fun w25 (hm26 : Mm none (fun _ => True) w w25 [.see (DkR d dv0 dv1) Fd, .see (Rs eWr 2 l lv0) Fl, .blk g4 #[dv0, dv1, .int .i64 ((fuse.toNat : Nat) : Int), .bool (d.down)] 25]) => ?_))
  refine wpList_nil ?_
  refine then_n (hK24 _ _ ?_)
  refine wp_seq_k (fun K27 hK27 => ?_)
  refine wp_region_lit ?_
  refine lvw 7 (.int .i64 0) rfl rfl (run_as rfl rfl) ?_
  simp only [nz1, nz2, nz3]
  refine wpList_nil ?_
  refine then_n (hK27 _ _ ?_)
  refine wp_seq_k (fun K28 hK28 => ?_)
  refine wp_seq_k (fun K29 hK29 => ?_)
  refine wp_region_lit ?_
  refine lvw 8 (.int .i64 0) rfl rfl (run_as rfl rfl) ?_
  simp only [nz1, nz2, nz3]
  refine wpList_nil ?_
  refine then_n (hK29 _ _ ?_)
  obtain ⟨F42, hm43⟩ : ∃ F42, Mm none (fun _ => True) w w25 [.see (DkR d dv0 dv1) Fd, .see (Rs eWr 2 l lv0) Fl, .blk g4 #[dv0, dv1, .int .i64 ((fuse.toNat : Nat) : Int), .bool (d.down)] 25, .see (Rs eS 1 d.safe dv0) F42] := hm26.derive ((hm26.from 0 rfl).mono (fun _ h => h.1))
  obtain ⟨F45, hm46⟩ : ∃ F45, Mm none (fun _ => True) w w25 [.see (DkR d dv0 dv1) Fd, .see (Rs eWr 2 l lv0) Fl, .blk g4 #[dv0, dv1, .int .i64 ((fuse.toNat : Nat) : Int), .bool (d.down)] 25, .see (Rs eS 1 d.safe dv0) F42, .see (Rs eWr 2 d.loose dv1) F45] := hm43.derive ((hm43.from 0 rfl).mono (fun _ h => h.2))
  refine wp_cutK (fun a' w' => ∃ (y51 : Nat) (y52 : Nat) (y53 : List (List UInt8)) (y56 : List Wr) (y59 : Int) (y60 : Bool) (v54 : Value) (F55 : Nat → Prop) (v57 : Value) (F58 : Nat → Prop) (yu0 : Nat → Value), fuse_m_l0 d fuse l ((l.length - 0) + 1) (0, 0, d.safe, d.loose, ((fuse.toNat : Nat) : Int), d.down) = .inl (y51, y52, y53, y56, y59, y60) ∧ (y53.length ≤ 8796093021952) ∧ (y56.length ≤ d.loose.length + y52) ∧ (y59 ≤ 9223372036854775807) ∧ (y51 ≤ y52) ∧ (y52 ≤ l.length) ∧ a' = ⟨#[.agg #[dv0, dv1, .int .i64 (d.fuse), .bool (d.down)], .int .u8 ((fuse.toNat : Nat) : Int), lv0, .pointer (some ⟨g4, 0, none⟩), undef, undef, yu0 0, .int .i64 ((y51 : Nat) : Int), .int .i64 ((y52 : Nat) : Int), yu0 1, yu0 2, .agg #[dv0, dv1, .int .i64 (d.fuse), .bool (d.down)], .bool ((right_m d)), .bool false, .bool false, .pointer (some ⟨g4, 3, none⟩), .bool false, .bool false, .bool false, lv0, .int .i64 ((l.length : Nat) : Int), .bool (decide (300 < l.length)), .bool (decide (300 < l.length)), undef, .int .u8 ((fuse.toNat : Nat) : Int), .int .i64 ((fuse.toNat : Nat) : Int), .pointer (some ⟨g4, 2, none⟩), yu0 3, yu0 4, yu0 5, yu0 6, yu0 7, yu0 8, yu0 9, yu0 10, yu0 11, yu0 12, yu0 13, yu0 14, yu0 15, yu0 16, yu0 17, yu0 18, yu0 19, yu0 20, yu0 21, yu0 22, yu0 23, yu0 24, yu0 25, yu0 26, yu0 27, yu0 28, yu0 29, yu0 30, yu0 31, yu0 32, yu0 33, yu0 34, yu0 35, yu0 36, yu0 37, yu0 38, yu0 39, yu0 40, yu0 41, yu0 42, yu0 43, yu0 44, yu0 45, yu0 46, undef, undef, undef, undef, undef, undef, undef, undef, undef, undef, undef, undef, undef, undef, undef, undef, undef, undef, undef, undef], []⟩ ∧ Mm none (fun _ => True) w w' [.see (DkR d dv0 dv1) Fd, .see (Rs eWr 2 l lv0) Fl, .blk g4 #[v54, v57, .int .i64 (y59), .bool (y60)] 25, .see (Rs eS 1 y53 v54) F55, .see (Rs eWr 2 y56 v57) F58]) ?_ ?_
  · refine wp_block ?_
    refine wp_loop_n (fun n' a' w' => ∃ (n48 : Nat) (x30 : Nat) (x31 : Nat) (l32 : List (List UInt8)) (l36 : List Wr) (x40 : Int) (x41 : Bool) (v33 : Value) (F34 : Nat → Prop) (v37 : Value) (F38 : Nat → Prop) (u0 : Nat → Value), n' = n48 ∧ (l.length - x31) < n48 ∧ fuse_m_l0 d fuse l ((l.length - 0) + 1) (0, 0, d.safe, d.loose, ((fuse.toNat : Nat) : Int), d.down) = fuse_m_l0 d fuse l n48 (x30, x31, l32, l36, x40, x41) ∧ (l32.length ≤ 8796093021952) ∧ (l36.length ≤ d.loose.length + x31) ∧ (x40 ≤ 9223372036854775807) ∧ (x30 ≤ x31) ∧ (x31 ≤ l.length) ∧ a' = ⟨#[.agg #[dv0, dv1, .int .i64 (d.fuse), .bool (d.down)], .int .u8 ((fuse.toNat : Nat) : Int), lv0, .pointer (some ⟨g4, 0, none⟩), undef, undef, u0 0, .int .i64 ((x30 : Nat) : Int), .int .i64 ((x31 : Nat) : Int), u0 1, u0 2, .agg #[dv0, dv1, .int .i64 (d.fuse), .bool (d.down)], .bool ((right_m d)), .bool false, .bool false, .pointer (some ⟨g4, 3, none⟩), .bool false, .bool false, .bool false, lv0, .int .i64 ((l.length : Nat) : Int), .bool (decide (300 < l.length)), .bool (decide (300 < l.length)), undef, .int .u8 ((fuse.toNat : Nat) : Int), .int .i64 ((fuse.toNat : Nat) : Int), .pointer (some ⟨g4, 2, none⟩), u0 3, u0 4, u0 5, u0 6, u0 7, u0 8, u0 9, u0 10, u0 11, u0 12, u0 13, u0 14, u0 15, u0 16, u0 17, u0 18, u0 19, u0 20, u0 21, u0 22, u0 23, u0 24, u0 25, u0 26, u0 27, u0 28, u0 29, u0 30, u0 31, u0 32, u0 33, u0 34, u0 35, u0 36, u0 37, u0 38, u0 39, u0 40, u0 41, u0 42, u0 43, u0 44, u0 45, u0 46, undef, undef, undef, undef, undef, undef, undef, undef, undef, undef, undef, undef, undef, undef, undef, undef, undef, undef, undef, undef], []⟩ ∧ Mm none (fun _ => True) w w' [.see (DkR d dv0 dv1) Fd, .see (Rs eWr 2 l lv0) Fl, .blk g4 #[v33, v37, .int .i64 (x40), .bool (x41)] 25, .see (Rs eS 1 l32 v33) F34, .see (Rs eWr 2 l36 v37) F38]) ⟨((l.length - 0) + 1), 0, 0, d.safe, d.loose, ((fuse.toNat : Nat) : Int), d.down, dv0, F42, dv1, F45, (fun qq => bif Nat.blt qq 24 then List.getD [.bool false, undef, undef, undef, undef, undef, undef, undef, undef, undef, undef, undef, undef, undef, undef, undef, undef, undef, undef, undef, undef, undef, undef, undef] qq undef else List.getD [undef, undef, undef, undef, undef, undef, undef, undef, undef, undef, undef, undef, undef, undef, undef, undef, undef, undef, undef, undef, undef, undef, undef] (qq - 24) undef), rfl, Nat.lt_succ_self _, rfl, (by first | omega | (have := UInt8.toNat_lt fuse; omega) | (simp; done) | (simp; omega) | (simp at *; omega)), (by first | omega | (have := UInt8.toNat_lt fuse; omega) | (simp; done) | (simp; omega) | (simp at *; omega)), (by first | omega | (have := UInt8.toNat_lt fuse; omega) | (simp; done) | (simp; omega) | (simp at *; omega)), (by first | omega | (have := UInt8.toNat_lt fuse; omega) | (simp; done) | (simp; omega) | (simp at *; omega)), (by first | omega | (have := UInt8.toNat_lt fuse; omega) | (simp; done) | (simp; omega) | (simp at *; omega)), rfl, hm46⟩ ?_
    rintro n48 _ w62 ⟨_, x30, x31, l32, l36, x40, x41, v33, F34, v37, F38, u0, rfl, hl66, hi50, hls, hll, hfu, hdn, hxl, rfl, hm63⟩ R64 hR64
    obtain ⟨k49, rfl⟩ : ∃ k, n48 = k + 1 := ⟨n48 - 1, by omega⟩
    refine wp_seq_k (fun K67 hK67 => ?_)
    refine wp_seq_k (fun K68 hK68 => ?_)
    refine wp_region_lit ?_
    refine lvw 27 (.int .i64 ((x31 : Nat) : Int)) rfl rfl (run_mv rfl rfl) ?_
    simp only [nz1, nz2, nz3]
    refine lvw 28 (lv0) rfl rfl (run_mv rfl rfl) ?_
    simp only [nz1, nz2, nz3]
    refine lvw 29 (.int .i64 ((l.length : Nat) : Int)) rfl rfl (s_len ((hm63.see 1 rfl)) rfl Try.underlying23 rfl) ?_
    simp only [nz1, nz2, nz3]
    refine lvw 30 (.bool (decide (x31 < l.length))) rfl rfl (r_lss x31 l.length rfl rfl rfl) ?_
    simp only [nz1, nz2, nz3]
    refine wpList_nil ?_
    refine then_n (hK68 _ _ ?_)
    refine cond_d (x31 < l.length) rfl (fun hc69 => ?_) (fun hc69 => ?_)
    rotate_left
    · refine wp_exit ?_
      refine then_x ?_
      refine then_x ?_
      refine blk_x ?_
      refine then_n ?_
      obtain ⟨F181, hm182⟩ : ∃ F181, Mm none (fun _ => True) w w62 [.see (DkR d dv0 dv1) Fd, .see (Rs eWr 2 l lv0) Fl, .blk g4 #[v33, v37, .int .i64 (x40), .bool (x41)] 25, .see (Rs eS 1 l32 v33) F34, .see (Rs eWr 2 l36 v37) F38, .see (Rs eS 1 l32 v33) F181] := hm63.derive (hm63.from 3 rfl)
      obtain ⟨F184, hm185⟩ : ∃ F184, Mm none (fun _ => True) w w62 [.see (DkR d dv0 dv1) Fd, .see (Rs eWr 2 l lv0) Fl, .blk g4 #[v33, v37, .int .i64 (x40), .bool (x41)] 25, .see (Rs eS 1 l32 v33) F34, .see (Rs eWr 2 l36 v37) F38, .see (Rs eS 1 l32 v33) F181, .see (Rs eWr 2 l36 v37) F184] := hm182.derive (hm182.from 4 rfl)
      exact ⟨x30, x31, l32, l36, x40, x41, v33, F181, v37, F184, (fun qq => bif Nat.blt qq 24 then List.getD [u0 0, u0 1, u0 2, .int .i64 ((x31 : Nat) : Int), lv0, .int .i64 ((l.length : Nat) : Int), .bool (decide (x31 < l.length)), u0 7, u0 8, u0 9, u0 10, u0 11, u0 12, u0 13, u0 14, u0 15, u0 16, u0 17, u0 18, u0 19, u0 20, u0 21, u0 22, u0 23] qq undef else List.getD [u0 24, u0 25, u0 26, u0 27, u0 28, u0 29, u0 30, u0 31, u0 32, u0 33, u0 34, u0 35, u0 36, u0 37, u0 38, u0 39, u0 40, u0 41, u0 42, u0 43, u0 44, u0 45, u0 46] (qq - 24) undef), (hi50.trans (show fuse_m_b0 d fuse l (fuse_m_l0 d fuse l k49) x30 x31 l32 l36 x40 x41 = .inl (x30, x31, l32, l36, x40, x41) from by unfold fuse_m_b0; rw [if_neg hc69] <;> rfl)), (by first | omega | (have := UInt8.toNat_lt fuse; omega) | (simp; done) | (simp; omega) | (simp at *; omega)), (by first | omega | (have := UInt8.toNat_lt fuse; omega) | (simp; done) | (simp; omega) | (simp at *; omega)), (by first | omega | (have := UInt8.toNat_lt fuse; omega) | (simp; done) | (simp; omega) | (simp at *; omega)), (by first | omega | (have := UInt8.toNat_lt fuse; omega) | (simp; done) | (simp; omega) | (simp at *; omega)), (by first | omega | (have := UInt8.toNat_lt fuse; omega) | (simp; done) | (simp; omega) | (simp at *; omega)), rfl, (Mm.reorder hm185 [0, 1, 2, 5, 6] (by decide) rfl)⟩
    refine wp_skip ?_
    refine then_n (hK67 _ _ ?_)
    refine wp_seq_k (fun K70 hK70 => ?_)
    refine wp_block ?_
    refine wp_seq_k (fun K71 hK71 => ?_)
    refine wp_mono (Q := fun e a' w' => e = Exit.normal ∧ ∃ (v76 : Value) (v77 : Value) (F79 : Nat → Prop) (g91 : Nat), a' = ⟨#[.agg #[dv0, dv1, .int .i64 (d.fuse), .bool (d.down)], .int .u8 ((fuse.toNat : Nat) : Int), lv0, .pointer (some ⟨g4, 0, none⟩), undef, undef, u0 0, .int .i64 ((x30 : Nat) : Int), .int .i64 ((x31 : Nat) : Int), .pointer (some ⟨g91, 0, none⟩), .int .i64 ((put_m (Dk.mk l32 l36 x40 x41) ((l.getD x31 dWr).at_) ((l.getD x31 dWr).data)).2), .agg #[dv0, dv1, .int .i64 (d.fuse), .bool (d.down)], .bool ((right_m d)), .bool false, .bool false, .pointer (some ⟨g4, 3, none⟩), .bool false, .bool false, .bool false, lv0, .int .i64 ((l.length : Nat) : Int), .bool (decide (300 < l.length)), .bool (decide (300 < l.length)), undef, .int .u8 ((fuse.toNat : Nat) : Int), .int .i64 ((fuse.toNat : Nat) : Int), .pointer (some ⟨g4, 2, none⟩), .int .i64 ((x31 : Nat) : Int), lv0, .int .i64 ((l.length : Nat) : Int), .bool (decide (x31 < l.length)), u0 7, u0 8, .tuple #[.agg #[v76, v77, .int .i64 (((put_m (Dk.mk l32 l36 x40 x41) ((l.getD x31 dWr).at_) ((l.getD x31 dWr).data)).1).fuse), .bool (((put_m (Dk.mk l32 l36 x40 x41) ((l.getD x31 dWr).at_) ((l.getD x31 dWr).data)).1).down)], .int .i64 ((put_m (Dk.mk l32 l36 x40 x41) ((l.getD x31 dWr).at_) ((l.getD x31 dWr).data)).2)], .agg #[v33, v37, .int .i64 (x40), .bool (x41)], lv0, .int .i64 ((x31 : Nat) : Int), .pointer (some ⟨(bk lv0), (po lv0 + x31 * 2), none⟩), .pointer (some ⟨(bk lv0), ((po lv0 + x31 * 2) + 0), none⟩), .int .i64 ((l.getD x31 dWr).at_), lv0, .int .i64 ((x31 : Nat) : Int), .pointer (some ⟨(bk lv0), (po lv0 + x31 * 2), none⟩), .pointer (some ⟨(bk lv0), ((po lv0 + x31 * 2) + 1), none⟩), .string (tx ((l.getD x31 dWr).data)), .tuple #[.agg #[v76, v77, .int .i64 (((put_m (Dk.mk l32 l36 x40 x41) ((l.getD x31 dWr).at_) ((l.getD x31 dWr).data)).1).fuse), .bool (((put_m (Dk.mk l32 l36 x40 x41) ((l.getD x31 dWr).at_) ((l.getD x31 dWr).data)).1).down)], .int .i64 ((put_m (Dk.mk l32 l36 x40 x41) ((l.getD x31 dWr).at_) ((l.getD x31 dWr).data)).2)], .agg #[v76, v77, .int .i64 (((put_m (Dk.mk l32 l36 x40 x41) ((l.getD x31 dWr).at_) ((l.getD x31 dWr).data)).1).fuse), .bool (((put_m (Dk.mk l32 l36 x40 x41) ((l.getD x31 dWr).at_) ((l.getD x31 dWr).data)).1).down)], .int .i64 ((put_m (Dk.mk l32 l36 x40 x41) ((l.getD x31 dWr).at_) ((l.getD x31 dWr).data)).2), u0 24, u0 25, u0 26, u0 27, u0 28, u0 29, u0 30, u0 31, u0 32, u0 33, u0 34, u0 35, u0 36, u0 37, u0 38, u0 39, u0 40, u0 41, u0 42, u0 43, u0 44, u0 45, u0 46, undef, undef, undef, undef, undef, undef, undef, undef, undef, undef, undef, undef, undef, undef, undef, undef, undef, undef, undef, undef], []⟩ ∧ Mm none (fun _ => True) w w' [.see (DkR d dv0 dv1) Fd, .see (Rs eWr 2 l lv0) Fl, .blk g4 #[v33, v37, .int .i64 (x40), .bool (x41)] 25, .see (Rs eS 1 l32 v33) F34, .see (Rs eWr 2 l36 v37) F38, .see (DkR ((put_m (Dk.mk l32 l36 x40 x41) ((l.getD x31 dWr).at_) ((l.getD x31 dWr).data)).1) v76 v77) F79, .blk g91 #[v76, v77, .int .i64 (((put_m (Dk.mk l32 l36 x40 x41) ((l.getD x31 dWr).at_) ((l.getD x31 dWr).data)).1).fuse), .bool (((put_m (Dk.mk l32 l36 x40 x41) ((l.getD x31 dWr).at_) ((l.getD x31 dWr).data)).1).down)] 25]) ?_ ?_
    · have hm72 := hm63.drew
      refine wp_region_held_drew (S := fun w' => Mem.Blk w' g4 (#[v33, v37, .int .i64 (x40), .bool (x41)]) 25 ∧ Rs eWr 2 l lv0 w') (by kernel_rfl) (⟨hm72.at 2 rfl, ((hm72.see 1 rfl))⟩) (fun _ => ?_)
      generalize w62.drew = w73 at *
      refine Sym.take_at 0 34 (.agg #[v33, v37, .int .i64 (x40), .bool (x41)]) rfl rfl (by kernel_rfl) (by kernel_rfl) (by kernel_rfl) (fun _ _ _ h => nomatch h.1) rfl (fun _ hw => r_whole hw.1 Try.underlying25 rfl (by exact sz_25) rfl rfl) (⟨hm72.at 2 rfl, ((hm72.see 1 rfl))⟩) ?_
      simp only [nz1, nz2, nz3]
      refine Sym.take_at 1 35 (lv0) rfl rfl (by kernel_rfl) (by kernel_rfl) (by kernel_rfl) (fun _ _ _ h => nomatch h.1) rfl (fun _ hw => run_mv rfl rfl) (⟨hm72.at 2 rfl, ((hm72.see 1 rfl))⟩) ?_
      simp only [nz1, nz2, nz3]
      refine Sym.take_at 2 36 (.int .i64 ((x31 : Nat) : Int)) rfl rfl (by kernel_rfl) (by kernel_rfl) (by kernel_rfl) (fun _ _ _ h => nomatch h.1) rfl (fun _ hw => run_mv rfl rfl) (⟨hm72.at 2 rfl, ((hm72.see 1 rfl))⟩) ?_
      simp only [nz1, nz2, nz3]
      refine Sym.take_at 3 37 (.pointer (some ⟨(bk lv0), (po lv0 + x31 * 2), none⟩)) rfl rfl (by kernel_rfl) (by kernel_rfl) (by kernel_rfl) (fun _ _ _ h => nomatch h.1) rfl (fun _ hw => r_ixv ((hm72.see 1 rfl)) x31 (by omega) Try.underlying23 sz_42 rfl rfl rfl) (⟨hm72.at 2 rfl, ((hm72.see 1 rfl))⟩) ?_
      simp only [nz1, nz2, nz3]
      refine Sym.take_at 4 38 (.pointer (some ⟨(bk lv0), ((po lv0 + x31 * 2) + 0), none⟩)) rfl rfl (by kernel_rfl) (by kernel_rfl) (by kernel_rfl) (fun _ _ _ h => nomatch h.1) rfl (fun _ hw => r_fa42_0 (bk lv0) (po lv0 + x31 * 2) rfl rfl) (⟨hm72.at 2 rfl, ((hm72.see 1 rfl))⟩) ?_
      simp only [nz1, nz2, nz3]
      refine Sym.take_at 5 39 (.int .i64 ((l.getD x31 dWr).at_)) rfl rfl (by kernel_rfl) (by kernel_rfl) (by kernel_rfl) (fun _ _ _ h => nomatch h.1) rfl (fun _ hw => r_cellw (Rs.cell hw.2 eWr_len dWr x31 (by omega) 0 _ rfl) Try.underlying3 rfl rfl rfl) (⟨hm72.at 2 rfl, ((hm72.see 1 rfl))⟩) ?_
      simp only [nz1, nz2, nz3]
      refine Sym.take_at 6 40 (lv0) rfl rfl (by kernel_rfl) (by kernel_rfl) (by kernel_rfl) (fun _ _ _ h => nomatch h.1) rfl (fun _ hw => run_mv rfl rfl) (⟨hm72.at 2 rfl, ((hm72.see 1 rfl))⟩) ?_
      simp only [nz1, nz2, nz3]
      refine Sym.take_at 7 41 (.int .i64 ((x31 : Nat) : Int)) rfl rfl (by kernel_rfl) (by kernel_rfl) (by kernel_rfl) (fun _ _ _ h => nomatch h.1) rfl (fun _ hw => run_mv rfl rfl) (⟨hm72.at 2 rfl, ((hm72.see 1 rfl))⟩) ?_
      simp only [nz1, nz2, nz3]
      refine Sym.take_at 8 42 (.pointer (some ⟨(bk lv0), (po lv0 + x31 * 2), none⟩)) rfl rfl (by kernel_rfl) (by kernel_rfl) (by kernel_rfl) (fun _ _ _ h => nomatch h.1) rfl (fun _ hw => r_ixv ((hm72.see 1 rfl)) x31 (by omega) Try.underlying23 sz_42 rfl rfl rfl) (⟨hm72.at 2 rfl, ((hm72.see 1 rfl))⟩) ?_
      simp only [nz1, nz2, nz3]
      refine Sym.take_at 9 43 (.pointer (some ⟨(bk lv0), ((po lv0 + x31 * 2) + 1), none⟩)) rfl rfl (by kernel_rfl) (by kernel_rfl) (by kernel_rfl) (fun _ _ _ h => nomatch h.1) rfl (fun _ hw => r_fa42_1 (bk lv0) (po lv0 + x31 * 2) rfl rfl) (⟨hm72.at 2 rfl, ((hm72.see 1 rfl))⟩) ?_
      simp only [nz1, nz2, nz3]
      refine Sym.take_at 10 44 (.string (tx ((l.getD x31 dWr).data))) rfl rfl (by kernel_rfl) (by kernel_rfl) (by kernel_rfl) (fun _ _ _ h => nomatch h.1) rfl (fun _ hw => r_cellw (Rs.cell hw.2 eWr_len dWr x31 (by omega) 1 _ rfl) Try.underlying9 rfl rfl rfl) (⟨hm72.at 2 rfl, ((hm72.see 1 rfl))⟩) ?_
      simp only [nz1, nz2, nz3]
      refine two_ready 11 15 (by kernel_rfl) ?_ ?_
      · refine opd rfl rfl (m_callx hm72 45 rfl (run_put rfl rfl rfl rfl) (put_any (Dk.mk l32 l36 x40 x41) ((l.getD x31 dWr).at_) ((l.getD x31 dWr).data) v33 v37 (seeS _) _ ((hm72.from 3 rfl).and (hm72.from 4 rfl)) (by first | omega | assumption | decide | (simp; done) | (simp; omega)) (by first | omega | assumption | decide | (simp; done) | (simp; omega)) (by first | omega | assumption | decide | (simp; done) | (simp; omega))) (fun vv80 w74 hR81 hb82 hm75 => ?_))
        obtain ⟨v76, v77, rfl, hg83⟩ := hR81
        obtain ⟨F79, hm84⟩ : ∃ F79, Mm none (fun _ => True) w w74 [.see (DkR d dv0 dv1) Fd, .see (Rs eWr 2 l lv0) Fl, .blk g4 #[v33, v37, .int .i64 (x40), .bool (x41)] 25, .see (Rs eS 1 l32 v33) F34, .see (Rs eWr 2 l36 v37) F38, .see (DkR ((put_m (Dk.mk l32 l36 x40 x41) ((l.getD x31 dWr).at_) ((l.getD x31 dWr).data)).1) v76 v77) F79] := Mm.tookS hm72 hb82 hg83
        clear hm75 hg83 hb82
        have hf85 : (put_m (Dk.mk l32 l36 x40 x41) ((l.getD x31 dWr).at_) ((l.getD x31 dWr).data)).1.safe.length = l32.length := (put_near (Dk.mk l32 l36 x40 x41) ((l.getD x31 dWr).at_) ((l.getD x31 dWr).data)).1
        have hf86 : (put_m (Dk.mk l32 l36 x40 x41) ((l.getD x31 dWr).at_) ((l.getD x31 dWr).data)).1.loose.length ≤ l36.length + 1 := (put_near (Dk.mk l32 l36 x40 x41) ((l.getD x31 dWr).at_) ((l.getD x31 dWr).data)).2.1
        have hf87 : (put_m (Dk.mk l32 l36 x40 x41) ((l.getD x31 dWr).at_) ((l.getD x31 dWr).data)).1.fuse ≤ 9223372036854775807 := (put_near (Dk.mk l32 l36 x40 x41) ((l.getD x31 dWr).at_) ((l.getD x31 dWr).data)).2.2 (show x40 ≤ 9223372036854775807 from (by first | omega | (simp; done) | (simp; omega)))
        have hf88 : (put_m (Dk.mk l32 l36 x40 x41) ((l.getD x31 dWr).at_) ((l.getD x31 dWr).data)).2 ≠ 0 ∨ (0 ≤ (l.getD x31 dWr).at_ ∧ (l.getD x31 dWr).at_ < (l32.length : Int)) := put_at (Dk.mk l32 l36 x40 x41) ((l.getD x31 dWr).at_) ((l.getD x31 dWr).data)
        refine ⟨⟨hm84.at 2 rfl, ((hm84.see 1 rfl))⟩, ?_⟩
        simp only [nz1, nz2, nz3]
        refine Sym.take_at 12 33 (.tuple #[.agg #[v76, v77, .int .i64 (((put_m (Dk.mk l32 l36 x40 x41) ((l.getD x31 dWr).at_) ((l.getD x31 dWr).data)).1).fuse), .bool (((put_m (Dk.mk l32 l36 x40 x41) ((l.getD x31 dWr).at_) ((l.getD x31 dWr).data)).1).down)], .int .i64 ((put_m (Dk.mk l32 l36 x40 x41) ((l.getD x31 dWr).at_) ((l.getD x31 dWr).data)).2)]) rfl rfl (by kernel_rfl) (by kernel_rfl) (by kernel_rfl) (fun _ _ _ h => nomatch h.1) rfl (fun _ hw => run_mv rfl rfl) (⟨hm84.at 2 rfl, ((hm84.see 1 rfl))⟩) ?_
        simp only [nz1, nz2, nz3]
        refine Sym.take_at 13 46 (.agg #[v76, v77, .int .i64 (((put_m (Dk.mk l32 l36 x40 x41) ((l.getD x31 dWr).at_) ((l.getD x31 dWr).data)).1).fuse), .bool (((put_m (Dk.mk l32 l36 x40 x41) ((l.getD x31 dWr).at_) ((l.getD x31 dWr).data)).1).down)]) rfl rfl (by kernel_rfl) (by kernel_rfl) (by kernel_rfl) (fun _ _ _ h => nomatch h.1) rfl (fun _ hw => run_ex rfl rfl rfl) (⟨hm84.at 2 rfl, ((hm84.see 1 rfl))⟩) ?_
        simp only [nz1, nz2, nz3]
        refine Sym.take_at 14 47 (.int .i64 ((put_m (Dk.mk l32 l36 x40 x41) ((l.getD x31 dWr).at_) ((l.getD x31 dWr).data)).2)) rfl rfl (by kernel_rfl) (by kernel_rfl) (by kernel_rfl) (fun _ _ _ h => nomatch h.1) rfl (fun _ hw => run_ex rfl rfl rfl) (⟨hm84.at 2 rfl, ((hm84.see 1 rfl))⟩) ?_
        simp only [nz1, nz2, nz3]
        refine one_ready 15 (by kernel_rfl) ?_
        refine opd rfl rfl (m_alloc (c := #[.slice none 0 0, .slice none 0 0, .int .i64 0, .bool false]) (T := 25) hm84 9 rfl (by unfold execOp; go_simp; try rfl) (fun g91 w89 hm90 => ?_))
        refine ⟨⟨hm90.at 2 rfl, ((hm90.see 1 rfl))⟩, ?_⟩
        simp only [nz1, nz2, nz3]
        refine one_ready 16 (by kernel_rfl) ?_
        have ho94 := (rd_one ((hm90.see 5 rfl).1))
        have ho95 := (rd_one ((hm90.see 5 rfl).2))
        refine opd rfl rfl (m_store 6 25 _ _ 0 (.agg #[v76, v77, .int .i64 (((put_m (Dk.mk l32 l36 x40 x41) ((l.getD x31 dWr).at_) ((l.getD x31 dWr).data)).1).fuse), .bool (((put_m (Dk.mk l32 l36 x40 x41) ((l.getD x31 dWr).at_) ((l.getD x31 dWr).data)).1).down)]) (old := #[.slice none 0 0, .slice none 0 0, .int .i64 0, .bool false]) (new := #[v76, v77, .int .i64 (((put_m (Dk.mk l32 l36 x40 x41) ((l.getD x31 dWr).at_) ((l.getD x31 dWr).data)).1).fuse), .bool (((put_m (Dk.mk l32 l36 x40 x41) ((l.getD x31 dWr).at_) ((l.getD x31 dWr).data)).1).down)]) hm90 rfl rfl rfl rfl rfl (by exact sz_25) (show 0 + 4 ≤ 4 from by decide) (by rw [Array.all_eq_true_iff_forall_mem]; intro x hx; simp only [Value.cells, List.mem_toArray, List.mem_cons, List.not_mem_nil, or_false] at hx; rcases hx with rfl | rfl | rfl | rfl <;> first | rfl | assumption) rfl (fun w92 hm93 => ?_))
        refine ⟨⟨hm93.at 2 rfl, ((hm93.see 1 rfl))⟩, ?_⟩
        refine one_ready 17 (by kernel_rfl) ?_
        refine opd rfl rfl (w_value 10 (.int .i64 ((put_m (Dk.mk l32 l36 x40 x41) ((l.getD x31 dWr).at_) ((l.getD x31 dWr).data)).2)) rfl (run_as rfl rfl) ⟨⟨hm93.at 2 rfl, ((hm93.see 1 rfl))⟩, ?_⟩)
        simp only [nz1, nz2, nz3]
        refine wpAnyH_done (by kernel_rfl) ?_ _
        exact ⟨rfl, v76, v77, F79, g91, rfl, hm93⟩
      · refine opd rfl rfl (m_alloc (c := #[.slice none 0 0, .slice none 0 0, .int .i64 0, .bool false]) (T := 25) hm72 9 rfl (by unfold execOp; go_simp; try rfl) (fun g98 w96 hm97 => ?_))
        refine ⟨⟨hm97.at 2 rfl, ((hm97.see 1 rfl))⟩, ?_⟩
        simp only [nz1, nz2, nz3]
        refine one_ready 11 (by kernel_rfl) ?_
        refine opd rfl rfl (m_callx hm97 45 rfl (run_put rfl rfl rfl rfl) (put_any (Dk.mk l32 l36 x40 x41) ((l.getD x31 dWr).at_) ((l.getD x31 dWr).data) v33 v37 (seeS _) _ ((hm97.from 3 rfl).and (hm97.from 4 rfl)) (by first | omega | assumption | decide | (simp; done) | (simp; omega)) (by first | omega | assumption | decide | (simp; done) | (simp; omega)) (by first | omega | assumption | decide | (simp; done) | (simp; omega))) (fun vv105 w99 hR106 hb107 hm100 => ?_))
        obtain ⟨v101, v102, rfl, hg108⟩ := hR106
        obtain ⟨F104, hm109⟩ : ∃ F104, Mm none (fun _ => True) w w99 [.see (DkR d dv0 dv1) Fd, .see (Rs eWr 2 l lv0) Fl, .blk g4 #[v33, v37, .int .i64 (x40), .bool (x41)] 25, .see (Rs eS 1 l32 v33) F34, .see (Rs eWr 2 l36 v37) F38, .blk g98 #[.slice none 0 0, .slice none 0 0, .int .i64 0, .bool false] 25, .see (DkR ((put_m (Dk.mk l32 l36 x40 x41) ((l.getD x31 dWr).at_) ((l.getD x31 dWr).data)).1) v101 v102) F104] := Mm.tookS hm97 hb107 hg108
        clear hm100 hg108 hb107
        have hf110 : (put_m (Dk.mk l32 l36 x40 x41) ((l.getD x31 dWr).at_) ((l.getD x31 dWr).data)).1.safe.length = l32.length := (put_near (Dk.mk l32 l36 x40 x41) ((l.getD x31 dWr).at_) ((l.getD x31 dWr).data)).1
        have hf111 : (put_m (Dk.mk l32 l36 x40 x41) ((l.getD x31 dWr).at_) ((l.getD x31 dWr).data)).1.loose.length ≤ l36.length + 1 := (put_near (Dk.mk l32 l36 x40 x41) ((l.getD x31 dWr).at_) ((l.getD x31 dWr).data)).2.1
        have hf112 : (put_m (Dk.mk l32 l36 x40 x41) ((l.getD x31 dWr).at_) ((l.getD x31 dWr).data)).1.fuse ≤ 9223372036854775807 := (put_near (Dk.mk l32 l36 x40 x41) ((l.getD x31 dWr).at_) ((l.getD x31 dWr).data)).2.2 (show x40 ≤ 9223372036854775807 from (by first | omega | (simp; done) | (simp; omega)))
        have hf113 : (put_m (Dk.mk l32 l36 x40 x41) ((l.getD x31 dWr).at_) ((l.getD x31 dWr).data)).2 ≠ 0 ∨ (0 ≤ (l.getD x31 dWr).at_ ∧ (l.getD x31 dWr).at_ < (l32.length : Int)) := put_at (Dk.mk l32 l36 x40 x41) ((l.getD x31 dWr).at_) ((l.getD x31 dWr).data)
        refine ⟨⟨hm109.at 2 rfl, ((hm109.see 1 rfl))⟩, ?_⟩
        simp only [nz1, nz2, nz3]
        refine Sym.take_at 12 33 (.tuple #[.agg #[v101, v102, .int .i64 (((put_m (Dk.mk l32 l36 x40 x41) ((l.getD x31 dWr).at_) ((l.getD x31 dWr).data)).1).fuse), .bool (((put_m (Dk.mk l32 l36 x40 x41) ((l.getD x31 dWr).at_) ((l.getD x31 dWr).data)).1).down)], .int .i64 ((put_m (Dk.mk l32 l36 x40 x41) ((l.getD x31 dWr).at_) ((l.getD x31 dWr).data)).2)]) rfl rfl (by kernel_rfl) (by kernel_rfl) (by kernel_rfl) (fun _ _ _ h => nomatch h.1) rfl (fun _ hw => run_mv rfl rfl) (⟨hm109.at 2 rfl, ((hm109.see 1 rfl))⟩) ?_
        simp only [nz1, nz2, nz3]
        refine Sym.take_at 13 46 (.agg #[v101, v102, .int .i64 (((put_m (Dk.mk l32 l36 x40 x41) ((l.getD x31 dWr).at_) ((l.getD x31 dWr).data)).1).fuse), .bool (((put_m (Dk.mk l32 l36 x40 x41) ((l.getD x31 dWr).at_) ((l.getD x31 dWr).data)).1).down)]) rfl rfl (by kernel_rfl) (by kernel_rfl) (by kernel_rfl) (fun _ _ _ h => nomatch h.1) rfl (fun _ hw => run_ex rfl rfl rfl) (⟨hm109.at 2 rfl, ((hm109.see 1 rfl))⟩) ?_
        simp only [nz1, nz2, nz3]
        refine Sym.take_at 14 47 (.int .i64 ((put_m (Dk.mk l32 l36 x40 x41) ((l.getD x31 dWr).at_) ((l.getD x31 dWr).data)).2)) rfl rfl (by kernel_rfl) (by kernel_rfl) (by kernel_rfl) (fun _ _ _ h => nomatch h.1) rfl (fun _ hw => run_ex rfl rfl rfl) (⟨hm109.at 2 rfl, ((hm109.see 1 rfl))⟩) ?_
        simp only [nz1, nz2, nz3]
        refine one_ready 16 (by kernel_rfl) ?_
        have ho116 := (rd_one ((hm109.see 6 rfl).1))
        have ho117 := (rd_one ((hm109.see 6 rfl).2))
        refine opd rfl rfl (m_store 5 25 _ _ 0 (.agg #[v101, v102, .int .i64 (((put_m (Dk.mk l32 l36 x40 x41) ((l.getD x31 dWr).at_) ((l.getD x31 dWr).data)).1).fuse), .bool (((put_m (Dk.mk l32 l36 x40 x41) ((l.getD x31 dWr).at_) ((l.getD x31 dWr).data)).1).down)]) (old := #[.slice none 0 0, .slice none 0 0, .int .i64 0, .bool false]) (new := #[v101, v102, .int .i64 (((put_m (Dk.mk l32 l36 x40 x41) ((l.getD x31 dWr).at_) ((l.getD x31 dWr).data)).1).fuse), .bool (((put_m (Dk.mk l32 l36 x40 x41) ((l.getD x31 dWr).at_) ((l.getD x31 dWr).data)).1).down)]) hm109 rfl rfl rfl rfl rfl (by exact sz_25) (show 0 + 4 ≤ 4 from by decide) (by rw [Array.all_eq_true_iff_forall_mem]; intro x hx; simp only [Value.cells, List.mem_toArray, List.mem_cons, List.not_mem_nil, or_false] at hx; rcases hx with rfl | rfl | rfl | rfl <;> first | rfl | assumption) rfl (fun w114 hm115 => ?_))
        refine ⟨⟨hm115.at 2 rfl, ((hm115.see 1 rfl))⟩, ?_⟩
        refine one_ready 17 (by kernel_rfl) ?_
        refine opd rfl rfl (w_value 10 (.int .i64 ((put_m (Dk.mk l32 l36 x40 x41) ((l.getD x31 dWr).at_) ((l.getD x31 dWr).data)).2)) rfl (run_as rfl rfl) ⟨⟨hm115.at 2 rfl, ((hm115.see 1 rfl))⟩, ?_⟩)
        simp only [nz1, nz2, nz3]
        refine wpAnyH_done (by kernel_rfl) ?_ _
        exact ⟨rfl, v101, v102, F104, g98, rfl, (Mm.reorder hm115 [0, 1, 2, 3, 4, 6, 5] (by decide) rfl)⟩
    clear hm63
    rintro _ _ w118 ⟨rfl, v76, v77, F79, g91, rfl, hm119⟩
    have hf120 : (put_m (Dk.mk l32 l36 x40 x41) ((l.getD x31 dWr).at_) ((l.getD x31 dWr).data)).1.safe.length = l32.length := (put_near (Dk.mk l32 l36 x40 x41) ((l.getD x31 dWr).at_) ((l.getD x31 dWr).data)).1
    have hf121 : (put_m (Dk.mk l32 l36 x40 x41) ((l.getD x31 dWr).at_) ((l.getD x31 dWr).data)).1.loose.length ≤ l36.length + 1 := (put_near (Dk.mk l32 l36 x40 x41) ((l.getD x31 dWr).at_) ((l.getD x31 dWr).data)).2.1
    have hf122 : (put_m (Dk.mk l32 l36 x40 x41) ((l.getD x31 dWr).at_) ((l.getD x31 dWr).data)).1.fuse ≤ 9223372036854775807 := (put_near (Dk.mk l32 l36 x40 x41) ((l.getD x31 dWr).at_) ((l.getD x31 dWr).data)).2.2 (show x40 ≤ 9223372036854775807 from (by first | omega | (simp; done) | (simp; omega)))
    have hf123 : (put_m (Dk.mk l32 l36 x40 x41) ((l.getD x31 dWr).at_) ((l.getD x31 dWr).data)).2 ≠ 0 ∨ (0 ≤ (l.getD x31 dWr).at_ ∧ (l.getD x31 dWr).at_ < (l32.length : Int)) := put_at (Dk.mk l32 l36 x40 x41) ((l.getD x31 dWr).at_) ((l.getD x31 dWr).data)
    refine then_n (hK71 _ _ ?_)
    refine wp_seq_k (fun K124 hK124 => ?_)
    refine wp_seq_k (fun K125 hK125 => ?_)
    refine wp_region_lit ?_
    refine lvw 48 (.int .i64 ((put_m (Dk.mk l32 l36 x40 x41) ((l.getD x31 dWr).at_) ((l.getD x31 dWr).data)).2)) rfl rfl (run_mv rfl rfl) ?_
    simp only [nz1, nz2, nz3]
    refine wpList_nil ?_
    refine then_n (hK125 _ _ ?_)
    refine wp_block ?_
    refine wp_seq_k (fun K126 hK126 => ?_)
    refine wp_region_lit ?_
    refine lvw 50 (.bool (decide ((put_m (Dk.mk l32 l36 x40 x41) ((l.getD x31 dWr).at_) ((l.getD x31 dWr).data)).2 = 0))) rfl rfl (z_eql ((put_m (Dk.mk l32 l36 x40 x41) ((l.getD x31 dWr).at_) ((l.getD x31 dWr).data)).2) 0 rfl rfl rfl) ?_
    simp only [nz1, nz2, nz3]
    refine lvw 49 (.bool (decide ((put_m (Dk.mk l32 l36 x40 x41) ((l.getD x31 dWr).at_) ((l.getD x31 dWr).data)).2 = 0))) rfl rfl (run_as rfl rfl) ?_
    simp only [nz1, nz2, nz3]
    refine wpList_nil ?_
    refine then_n (hK126 _ _ ?_)
    refine cond_d ((put_m (Dk.mk l32 l36 x40 x41) ((l.getD x31 dWr).at_) ((l.getD x31 dWr).data)).2 = 0) rfl (fun hc127 => ?_) (fun hc127 => ?_)
    · refine wp_region_lit ?_
      refine lvw 51 (.int .i64 ((x30 : Nat) : Int)) rfl rfl (run_mv rfl rfl) ?_
      simp only [nz1, nz2, nz3]
      refine lvw 52 (.int .i64 (((x30 + 1) : Nat) : Int)) rfl rfl (r_add x30 1 (show (x30 + 1) < 9223372036854775808 from by omega) rfl rfl rfl) ?_
      simp only [nz1, nz2, nz3]
      refine lvw 7 (.int .i64 (((x30 + 1) : Nat) : Int)) rfl rfl (run_as rfl rfl) ?_
      simp only [nz1, nz2, nz3]
      refine wpList_nil ?_
      refine blk_n ?_
      refine then_n (hK124 _ _ ?_)
      refine wp_region_lit ?_
      refine lvw 70 (.agg #[v76, v77, .int .i64 (((put_m (Dk.mk l32 l36 x40 x41) ((l.getD x31 dWr).at_) ((l.getD x31 dWr).data)).1).fuse), .bool (((put_m (Dk.mk l32 l36 x40 x41) ((l.getD x31 dWr).at_) ((l.getD x31 dWr).data)).1).down)]) rfl rfl (r_whole (hm119.at 6 rfl) Try.underlying25 rfl (by exact sz_25) rfl rfl) ?_
      simp only [nz1, nz2, nz3]
      have ho130 := (rd_one ((hm119.see 5 rfl).1))
      have ho131 := (rd_one ((hm119.see 5 rfl).2))
      refine lst rfl (m_store 2 25 _ _ 0 (.agg #[v76, v77, .int .i64 (((put_m (Dk.mk l32 l36 x40 x41) ((l.getD x31 dWr).at_) ((l.getD x31 dWr).data)).1).fuse), .bool (((put_m (Dk.mk l32 l36 x40 x41) ((l.getD x31 dWr).at_) ((l.getD x31 dWr).data)).1).down)]) (old := #[v33, v37, .int .i64 (x40), .bool (x41)]) (new := #[v76, v77, .int .i64 (((put_m (Dk.mk l32 l36 x40 x41) ((l.getD x31 dWr).at_) ((l.getD x31 dWr).data)).1).fuse), .bool (((put_m (Dk.mk l32 l36 x40 x41) ((l.getD x31 dWr).at_) ((l.getD x31 dWr).data)).1).down)]) hm119 rfl rfl rfl rfl rfl (by exact sz_25) (show 0 + 4 ≤ 4 from by decide) (by rw [Array.all_eq_true_iff_forall_mem]; intro x hx; simp only [Value.cells, List.mem_toArray, List.mem_cons, List.not_mem_nil, or_false] at hx; rcases hx with rfl | rfl | rfl | rfl <;> first | rfl | assumption) rfl (fun w128 (hm129 : Mm none (fun _ => True) w w128 [.see (DkR d dv0 dv1) Fd, .see (Rs eWr 2 l lv0) Fl, .blk g4 #[v76, v77, .int .i64 (((put_m (Dk.mk l32 l36 x40 x41) ((l.getD x31 dWr).at_) ((l.getD x31 dWr).data)).1).fuse), .bool (((put_m (Dk.mk l32 l36 x40 x41) ((l.getD x31 dWr).at_) ((l.getD x31 dWr).data)).1).down)] 25, .see (Rs eS 1 l32 v33) F34, .see (Rs eWr 2 l36 v37) F38, .see (DkR ((put_m (Dk.mk l32 l36 x40 x41) ((l.getD x31 dWr).at_) ((l.getD x31 dWr).data)).1) v76 v77) F79, .blk g91 #[v76, v77, .int .i64 (((put_m (Dk.mk l32 l36 x40 x41) ((l.getD x31 dWr).at_) ((l.getD x31 dWr).data)).1).fuse), .bool (((put_m (Dk.mk l32 l36 x40 x41) ((l.getD x31 dWr).at_) ((l.getD x31 dWr).data)).1).down)] 25]) => ?_))
      refine wpList_nil ?_
      refine blk_n ?_
      refine then_n (hK70 _ _ ?_)
      refine wp_region_lit ?_
      refine lvw 31 (.int .i64 ((x31 : Nat) : Int)) rfl rfl (run_mv rfl rfl) ?_
      simp only [nz1, nz2, nz3]
      refine lvw 32 (.int .i64 (((x31 + 1) : Nat) : Int)) rfl rfl (r_add x31 1 (show (x31 + 1) < 9223372036854775808 from by omega) rfl rfl rfl) ?_
      simp only [nz1, nz2, nz3]
      refine lvw 8 (.int .i64 (((x31 + 1) : Nat) : Int)) rfl rfl (run_as rfl rfl) ?_
      simp only [nz1, nz2, nz3]
      refine wpList_nil ?_
      obtain ⟨F132, hm133⟩ : ∃ F132, Mm none (fun _ => True) w w128 [.see (DkR d dv0 dv1) Fd, .see (Rs eWr 2 l lv0) Fl, .blk g4 #[v76, v77, .int .i64 (((put_m (Dk.mk l32 l36 x40 x41) ((l.getD x31 dWr).at_) ((l.getD x31 dWr).data)).1).fuse), .bool (((put_m (Dk.mk l32 l36 x40 x41) ((l.getD x31 dWr).at_) ((l.getD x31 dWr).data)).1).down)] 25, .see (Rs eS 1 l32 v33) F34, .see (Rs eWr 2 l36 v37) F38, .see (DkR ((put_m (Dk.mk l32 l36 x40 x41) ((l.getD x31 dWr).at_) ((l.getD x31 dWr).data)).1) v76 v77) F79, .blk g91 #[v76, v77, .int .i64 (((put_m (Dk.mk l32 l36 x40 x41) ((l.getD x31 dWr).at_) ((l.getD x31 dWr).data)).1).fuse), .bool (((put_m (Dk.mk l32 l36 x40 x41) ((l.getD x31 dWr).at_) ((l.getD x31 dWr).data)).1).down)] 25, .see (Rs eS 1 (((put_m (Dk.mk l32 l36 x40 x41) ((l.getD x31 dWr).at_) ((l.getD x31 dWr).data)).1).safe) v76) F132] := hm129.derive ((hm129.from 5 rfl).mono (fun _ h => h.1))
      obtain ⟨F135, hm136⟩ : ∃ F135, Mm none (fun _ => True) w w128 [.see (DkR d dv0 dv1) Fd, .see (Rs eWr 2 l lv0) Fl, .blk g4 #[v76, v77, .int .i64 (((put_m (Dk.mk l32 l36 x40 x41) ((l.getD x31 dWr).at_) ((l.getD x31 dWr).data)).1).fuse), .bool (((put_m (Dk.mk l32 l36 x40 x41) ((l.getD x31 dWr).at_) ((l.getD x31 dWr).data)).1).down)] 25, .see (Rs eS 1 l32 v33) F34, .see (Rs eWr 2 l36 v37) F38, .see (DkR ((put_m (Dk.mk l32 l36 x40 x41) ((l.getD x31 dWr).at_) ((l.getD x31 dWr).data)).1) v76 v77) F79, .blk g91 #[v76, v77, .int .i64 (((put_m (Dk.mk l32 l36 x40 x41) ((l.getD x31 dWr).at_) ((l.getD x31 dWr).data)).1).fuse), .bool (((put_m (Dk.mk l32 l36 x40 x41) ((l.getD x31 dWr).at_) ((l.getD x31 dWr).data)).1).down)] 25, .see (Rs eS 1 (((put_m (Dk.mk l32 l36 x40 x41) ((l.getD x31 dWr).at_) ((l.getD x31 dWr).data)).1).safe) v76) F132, .see (Rs eWr 2 (((put_m (Dk.mk l32 l36 x40 x41) ((l.getD x31 dWr).at_) ((l.getD x31 dWr).data)).1).loose) v77) F135] := hm133.derive ((hm133.from 5 rfl).mono (fun _ h => h.2))
      refine then_n (hR64 _ _ _ ⟨k49, (x30 + 1), (x31 + 1), (((put_m (Dk.mk l32 l36 x40 x41) ((l.getD x31 dWr).at_) ((l.getD x31 dWr).data)).1).safe), (((put_m (Dk.mk l32 l36 x40 x41) ((l.getD x31 dWr).at_) ((l.getD x31 dWr).data)).1).loose), ((put_m (Dk.mk l32 l36 x40 x41) ((l.getD x31 dWr).at_) ((l.getD x31 dWr).data)).1).fuse, (((put_m (Dk.mk l32 l36 x40 x41) ((l.getD x31 dWr).at_) ((l.getD x31 dWr).data)).1).down), v76, F132, v77, F135, (fun qq => bif Nat.blt qq 24 then List.getD [u0 0, .pointer (some ⟨g91, 0, none⟩), .int .i64 ((put_m (Dk.mk l32 l36 x40 x41) ((l.getD x31 dWr).at_) ((l.getD x31 dWr).data)).2), .int .i64 ((x31 : Nat) : Int), lv0, .int .i64 ((l.length : Nat) : Int), .bool (decide (x31 < l.length)), .int .i64 ((x31 : Nat) : Int), .int .i64 (((x31 + 1) : Nat) : Int), .tuple #[.agg #[v76, v77, .int .i64 (((put_m (Dk.mk l32 l36 x40 x41) ((l.getD x31 dWr).at_) ((l.getD x31 dWr).data)).1).fuse), .bool (((put_m (Dk.mk l32 l36 x40 x41) ((l.getD x31 dWr).at_) ((l.getD x31 dWr).data)).1).down)], .int .i64 ((put_m (Dk.mk l32 l36 x40 x41) ((l.getD x31 dWr).at_) ((l.getD x31 dWr).data)).2)], .agg #[v33, v37, .int .i64 (x40), .bool (x41)], lv0, .int .i64 ((x31 : Nat) : Int), .pointer (some ⟨(bk lv0), (po lv0 + x31 * 2), none⟩), .pointer (some ⟨(bk lv0), ((po lv0 + x31 * 2) + 0), none⟩), .int .i64 ((l.getD x31 dWr).at_), lv0, .int .i64 ((x31 : Nat) : Int), .pointer (some ⟨(bk lv0), (po lv0 + x31 * 2), none⟩), .pointer (some ⟨(bk lv0), ((po lv0 + x31 * 2) + 1), none⟩), .string (tx ((l.getD x31 dWr).data)), .tuple #[.agg #[v76, v77, .int .i64 (((put_m (Dk.mk l32 l36 x40 x41) ((l.getD x31 dWr).at_) ((l.getD x31 dWr).data)).1).fuse), .bool (((put_m (Dk.mk l32 l36 x40 x41) ((l.getD x31 dWr).at_) ((l.getD x31 dWr).data)).1).down)], .int .i64 ((put_m (Dk.mk l32 l36 x40 x41) ((l.getD x31 dWr).at_) ((l.getD x31 dWr).data)).2)], .agg #[v76, v77, .int .i64 (((put_m (Dk.mk l32 l36 x40 x41) ((l.getD x31 dWr).at_) ((l.getD x31 dWr).data)).1).fuse), .bool (((put_m (Dk.mk l32 l36 x40 x41) ((l.getD x31 dWr).at_) ((l.getD x31 dWr).data)).1).down)], .int .i64 ((put_m (Dk.mk l32 l36 x40 x41) ((l.getD x31 dWr).at_) ((l.getD x31 dWr).data)).2)] qq undef else List.getD [.int .i64 ((put_m (Dk.mk l32 l36 x40 x41) ((l.getD x31 dWr).at_) ((l.getD x31 dWr).data)).2), .bool (decide ((put_m (Dk.mk l32 l36 x40 x41) ((l.getD x31 dWr).at_) ((l.getD x31 dWr).data)).2 = 0)), .bool (decide ((put_m (Dk.mk l32 l36 x40 x41) ((l.getD x31 dWr).at_) ((l.getD x31 dWr).data)).2 = 0)), .int .i64 ((x30 : Nat) : Int), .int .i64 (((x30 + 1) : Nat) : Int), u0 29, u0 30, u0 31, u0 32, u0 33, u0 34, u0 35, u0 36, u0 37, u0 38, u0 39, u0 40, u0 41, u0 42, u0 43, u0 44, u0 45, .agg #[v76, v77, .int .i64 (((put_m (Dk.mk l32 l36 x40 x41) ((l.getD x31 dWr).at_) ((l.getD x31 dWr).data)).1).fuse), .bool (((put_m (Dk.mk l32 l36 x40 x41) ((l.getD x31 dWr).at_) ((l.getD x31 dWr).data)).1).down)]] (qq - 24) undef), rfl, (by first | omega | (simp; omega) | (simp at *; omega)), (hi50.trans (show fuse_m_b0 d fuse l (fuse_m_l0 d fuse l k49) x30 x31 l32 l36 x40 x41 = fuse_m_l0 d fuse l k49 ((x30 + 1), (x31 + 1), (((put_m (Dk.mk l32 l36 x40 x41) ((l.getD x31 dWr).at_) ((l.getD x31 dWr).data)).1).safe), (((put_m (Dk.mk l32 l36 x40 x41) ((l.getD x31 dWr).at_) ((l.getD x31 dWr).data)).1).loose), ((put_m (Dk.mk l32 l36 x40 x41) ((l.getD x31 dWr).at_) ((l.getD x31 dWr).data)).1).fuse, (((put_m (Dk.mk l32 l36 x40 x41) ((l.getD x31 dWr).at_) ((l.getD x31 dWr).data)).1).down)) from by unfold fuse_m_b0; rw [if_pos hc69, if_pos hc127] <;> rfl)), (by first | omega | (have := UInt8.toNat_lt fuse; omega) | (simp; done) | (simp; omega) | (simp at *; omega)), (by first | omega | (have := UInt8.toNat_lt fuse; omega) | (simp; done) | (simp; omega) | (simp at *; omega)), (by first | omega | (have := UInt8.toNat_lt fuse; omega) | (simp; done) | (simp; omega) | (simp at *; omega)), (by first | omega | (have := UInt8.toNat_lt fuse; omega) | (simp; done) | (simp; omega) | (simp at *; omega)), (by first | omega | (have := UInt8.toNat_lt fuse; omega) | (simp; done) | (simp; omega) | (simp at *; omega)), rfl, (Mm.reorder hm136 [0, 1, 2, 7, 8] (by decide) rfl)⟩ ?_)
      omega
    refine wp_seq_k (fun K138 hK138 => ?_)
    refine wp_region_lit ?_
    refine lvw 54 (.bool (decide ((put_m (Dk.mk l32 l36 x40 x41) ((l.getD x31 dWr).at_) ((l.getD x31 dWr).data)).2 = 11))) rfl rfl (z_eql ((put_m (Dk.mk l32 l36 x40 x41) ((l.getD x31 dWr).at_) ((l.getD x31 dWr).data)).2) 11 rfl rfl rfl) ?_
    simp only [nz1, nz2, nz3]
    refine lvw 53 (.bool (decide ((put_m (Dk.mk l32 l36 x40 x41) ((l.getD x31 dWr).at_) ((l.getD x31 dWr).data)).2 = 11))) rfl rfl (run_as rfl rfl) ?_
    simp only [nz1, nz2, nz3]
    refine wpList_nil ?_
    refine then_n (hK138 _ _ ?_)
    refine cond_d ((put_m (Dk.mk l32 l36 x40 x41) ((l.getD x31 dWr).at_) ((l.getD x31 dWr).data)).2 = 11) rfl (fun hc139 => ?_) (fun hc139 => ?_)
    rotate_left
    · refine wp_seq_k (fun K159 hK159 => ?_)
      refine wp_region_lit ?_
      refine lvw 65 (.bool (decide ((put_m (Dk.mk l32 l36 x40 x41) ((l.getD x31 dWr).at_) ((l.getD x31 dWr).data)).2 = 1))) rfl rfl (z_eql ((put_m (Dk.mk l32 l36 x40 x41) ((l.getD x31 dWr).at_) ((l.getD x31 dWr).data)).2) 1 rfl rfl rfl) ?_
      simp only [nz1, nz2, nz3]
      refine lvw 64 (.bool (decide ((put_m (Dk.mk l32 l36 x40 x41) ((l.getD x31 dWr).at_) ((l.getD x31 dWr).data)).2 = 1))) rfl rfl (run_as rfl rfl) ?_
      simp only [nz1, nz2, nz3]
      refine wpList_nil ?_
      refine then_n (hK159 _ _ ?_)
      refine cond_d ((put_m (Dk.mk l32 l36 x40 x41) ((l.getD x31 dWr).at_) ((l.getD x31 dWr).data)).2 = 1) rfl (fun hc160 => ?_) (fun hc160 => ?_)
      rotate_left
      · refine wp_seq_k (fun K178 hK178 => ?_)
        refine wp_region_lit ?_
        refine lvw 6 (.bool false) rfl rfl (run_as rfl rfl) ?_
        simp only [nz1, nz2, nz3]
        refine wpList_nil ?_
        refine then_n (hK178 _ _ ?_)
        refine wp_ret ?_
        refine blk_r ?_
        refine then_r ?_
        refine blk_r ?_
        refine then_r ?_
        refine then_r ?_
        refine blk_r ?_
        refine then_r ?_
        refine then_r ?_
        have he179 : fuse_m_l0 d fuse l ((l.length - 0) + 1) (0, 0, d.safe, d.loose, ((fuse.toNat : Nat) : Int), d.down) = .inr false := (hi50.trans (show fuse_m_b0 d fuse l (fuse_m_l0 d fuse l k49) x30 x31 l32 l36 x40 x41 = .inr false from by unfold fuse_m_b0; rw [if_pos hc69, if_neg hc127, if_neg hc139, if_neg hc160] <;> rfl))
        have he180 : fuse_m d fuse l = false := (show fuse_m d fuse l = false from by unfold fuse_m; rw [if_neg hs9, if_neg hs14, if_neg hc19, he179] <;> rfl)
        exact ⟨rfl, .bool false, res_t rfl rfl, ⟨by rw [he180], hm119.below⟩⟩
      refine wp_seq_k (fun K161 hK161 => ?_)
      refine wp_region_lit ?_
      refine lvw 66 (.agg #[v76, v77, .int .i64 (((put_m (Dk.mk l32 l36 x40 x41) ((l.getD x31 dWr).at_) ((l.getD x31 dWr).data)).1).fuse), .bool (((put_m (Dk.mk l32 l36 x40 x41) ((l.getD x31 dWr).at_) ((l.getD x31 dWr).data)).1).down)]) rfl rfl (r_whole (hm119.at 6 rfl) Try.underlying25 rfl (by exact sz_25) rfl rfl) ?_
      simp only [nz1, nz2, nz3]
      refine lvw 67 (.agg #[v33, v37, .int .i64 (x40), .bool (x41)]) rfl rfl (r_whole (hm119.at 2 rfl) Try.underlying25 rfl (by exact sz_25) rfl rfl) ?_
      simp only [nz1, nz2, nz3]
      refine lst rfl (m_call hm119 68 (.bool ((same_m ((put_m (Dk.mk l32 l36 x40 x41) ((l.getD x31 dWr).at_) ((l.getD x31 dWr).data)).1) (Dk.mk l32 l36 x40 x41)))) rfl (run_same rfl rfl rfl) (same_any ((put_m (Dk.mk l32 l36 x40 x41) ((l.getD x31 dWr).at_) ((l.getD x31 dWr).data)).1) (Dk.mk l32 l36 x40 x41) v76 v77 v33 v37 _ (hm119.see 5 rfl) ⟨(hm119.see 3 rfl), (hm119.see 4 rfl)⟩ (by first | omega | assumption | decide | (simp; done) | (simp; omega)) (by first | omega | assumption | decide | (simp; done) | (simp; omega))) (fun w162 (hm163 : Mm none (fun _ => True) w w162 [.see (DkR d dv0 dv1) Fd, .see (Rs eWr 2 l lv0) Fl, .blk g4 #[v33, v37, .int .i64 (x40), .bool (x41)] 25, .see (Rs eS 1 l32 v33) F34, .see (Rs eWr 2 l36 v37) F38, .see (DkR ((put_m (Dk.mk l32 l36 x40 x41) ((l.getD x31 dWr).at_) ((l.getD x31 dWr).data)).1) v76 v77) F79, .blk g91 #[v76, v77, .int .i64 (((put_m (Dk.mk l32 l36 x40 x41) ((l.getD x31 dWr).at_) ((l.getD x31 dWr).data)).1).fuse), .bool (((put_m (Dk.mk l32 l36 x40 x41) ((l.getD x31 dWr).at_) ((l.getD x31 dWr).data)).1).down)] 25]) => ?_))
      simp only [nz1, nz2, nz3]
      refine lvw 69 (.bool (!(same_m ((put_m (Dk.mk l32 l36 x40 x41) ((l.getD x31 dWr).at_) ((l.getD x31 dWr).data)).1) (Dk.mk l32 l36 x40 x41)))) rfl rfl (r_not (same_m ((put_m (Dk.mk l32 l36 x40 x41) ((l.getD x31 dWr).at_) ((l.getD x31 dWr).data)).1) (Dk.mk l32 l36 x40 x41)) rfl rfl) ?_
      simp only [nz1, nz2, nz3]
      refine wpList_nil ?_
      refine then_n (hK161 _ _ ?_)
      refine cond_B (!(same_m ((put_m (Dk.mk l32 l36 x40 x41) ((l.getD x31 dWr).at_) ((l.getD x31 dWr).data)).1) (Dk.mk l32 l36 x40 x41))) rfl (fun hc164 => ?_) (fun hc164 => ?_)
      · refine wp_seq_k (fun K165 hK165 => ?_)
        refine wp_region_lit ?_
        refine lvw 6 (.bool false) rfl rfl (run_as rfl rfl) ?_
        simp only [nz1, nz2, nz3]
        refine wpList_nil ?_
        refine then_n (hK165 _ _ ?_)
        refine wp_ret ?_
        refine blk_r ?_
        refine then_r ?_
        refine blk_r ?_
        refine then_r ?_
        refine then_r ?_
        refine blk_r ?_
        refine then_r ?_
        refine then_r ?_
        have he166 : fuse_m_l0 d fuse l ((l.length - 0) + 1) (0, 0, d.safe, d.loose, ((fuse.toNat : Nat) : Int), d.down) = .inr false := (hi50.trans (show fuse_m_b0 d fuse l (fuse_m_l0 d fuse l k49) x30 x31 l32 l36 x40 x41 = .inr false from by unfold fuse_m_b0; rw [if_pos hc69, if_neg hc127, if_neg hc139, if_pos hc160, if_pos hc164] <;> rfl))
        have he167 : fuse_m d fuse l = false := (show fuse_m d fuse l = false from by unfold fuse_m; rw [if_neg hs9, if_neg hs14, if_neg hc19, he166] <;> rfl)
        exact ⟨rfl, .bool false, res_t rfl rfl, ⟨by rw [he167], hm163.below⟩⟩
      refine wp_skip ?_
      refine blk_n ?_
      refine then_n (hK124 _ _ ?_)
      refine wp_region_lit ?_
      refine lvw 70 (.agg #[v76, v77, .int .i64 (((put_m (Dk.mk l32 l36 x40 x41) ((l.getD x31 dWr).at_) ((l.getD x31 dWr).data)).1).fuse), .bool (((put_m (Dk.mk l32 l36 x40 x41) ((l.getD x31 dWr).at_) ((l.getD x31 dWr).data)).1).down)]) rfl rfl (r_whole (hm163.at 6 rfl) Try.underlying25 rfl (by exact sz_25) rfl rfl) ?_
      simp only [nz1, nz2, nz3]
      have ho170 := (rd_one ((hm163.see 5 rfl).1))
      have ho171 := (rd_one ((hm163.see 5 rfl).2))
      refine lst rfl (m_store 2 25 _ _ 0 (.agg #[v76, v77, .int .i64 (((put_m (Dk.mk l32 l36 x40 x41) ((l.getD x31 dWr).at_) ((l.getD x31 dWr).data)).1).fuse), .bool (((put_m (Dk.mk l32 l36 x40 x41) ((l.getD x31 dWr).at_) ((l.getD x31 dWr).data)).1).down)]) (old := #[v33, v37, .int .i64 (x40), .bool (x41)]) (new := #[v76, v77, .int .i64 (((put_m (Dk.mk l32 l36 x40 x41) ((l.getD x31 dWr).at_) ((l.getD x31 dWr).data)).1).fuse), .bool (((put_m (Dk.mk l32 l36 x40 x41) ((l.getD x31 dWr).at_) ((l.getD x31 dWr).data)).1).down)]) hm163 rfl rfl rfl rfl rfl (by exact sz_25) (show 0 + 4 ≤ 4 from by decide) (by rw [Array.all_eq_true_iff_forall_mem]; intro x hx; simp only [Value.cells, List.mem_toArray, List.mem_cons, List.not_mem_nil, or_false] at hx; rcases hx with rfl | rfl | rfl | rfl <;> first | rfl | assumption) rfl (fun w168 (hm169 : Mm none (fun _ => True) w w168 [.see (DkR d dv0 dv1) Fd, .see (Rs eWr 2 l lv0) Fl, .blk g4 #[v76, v77, .int .i64 (((put_m (Dk.mk l32 l36 x40 x41) ((l.getD x31 dWr).at_) ((l.getD x31 dWr).data)).1).fuse), .bool (((put_m (Dk.mk l32 l36 x40 x41) ((l.getD x31 dWr).at_) ((l.getD x31 dWr).data)).1).down)] 25, .see (Rs eS 1 l32 v33) F34, .see (Rs eWr 2 l36 v37) F38, .see (DkR ((put_m (Dk.mk l32 l36 x40 x41) ((l.getD x31 dWr).at_) ((l.getD x31 dWr).data)).1) v76 v77) F79, .blk g91 #[v76, v77, .int .i64 (((put_m (Dk.mk l32 l36 x40 x41) ((l.getD x31 dWr).at_) ((l.getD x31 dWr).data)).1).fuse), .bool (((put_m (Dk.mk l32 l36 x40 x41) ((l.getD x31 dWr).at_) ((l.getD x31 dWr).data)).1).down)] 25]) => ?_))
      refine wpList_nil ?_
      refine blk_n ?_
      refine then_n (hK70 _ _ ?_)
      refine wp_region_lit ?_
      refine lvw 31 (.int .i64 ((x31 : Nat) : Int)) rfl rfl (run_mv rfl rfl) ?_
      simp only [nz1, nz2, nz3]
      refine lvw 32 (.int .i64 (((x31 + 1) : Nat) : Int)) rfl rfl (r_add x31 1 (show (x31 + 1) < 9223372036854775808 from by omega) rfl rfl rfl) ?_
      simp only [nz1, nz2, nz3]
      refine lvw 8 (.int .i64 (((x31 + 1) : Nat) : Int)) rfl rfl (run_as rfl rfl) ?_
      simp only [nz1, nz2, nz3]
      refine wpList_nil ?_
      obtain ⟨F172, hm173⟩ : ∃ F172, Mm none (fun _ => True) w w168 [.see (DkR d dv0 dv1) Fd, .see (Rs eWr 2 l lv0) Fl, .blk g4 #[v76, v77, .int .i64 (((put_m (Dk.mk l32 l36 x40 x41) ((l.getD x31 dWr).at_) ((l.getD x31 dWr).data)).1).fuse), .bool (((put_m (Dk.mk l32 l36 x40 x41) ((l.getD x31 dWr).at_) ((l.getD x31 dWr).data)).1).down)] 25, .see (Rs eS 1 l32 v33) F34, .see (Rs eWr 2 l36 v37) F38, .see (DkR ((put_m (Dk.mk l32 l36 x40 x41) ((l.getD x31 dWr).at_) ((l.getD x31 dWr).data)).1) v76 v77) F79, .blk g91 #[v76, v77, .int .i64 (((put_m (Dk.mk l32 l36 x40 x41) ((l.getD x31 dWr).at_) ((l.getD x31 dWr).data)).1).fuse), .bool (((put_m (Dk.mk l32 l36 x40 x41) ((l.getD x31 dWr).at_) ((l.getD x31 dWr).data)).1).down)] 25, .see (Rs eS 1 (((put_m (Dk.mk l32 l36 x40 x41) ((l.getD x31 dWr).at_) ((l.getD x31 dWr).data)).1).safe) v76) F172] := hm169.derive ((hm169.from 5 rfl).mono (fun _ h => h.1))
      obtain ⟨F175, hm176⟩ : ∃ F175, Mm none (fun _ => True) w w168 [.see (DkR d dv0 dv1) Fd, .see (Rs eWr 2 l lv0) Fl, .blk g4 #[v76, v77, .int .i64 (((put_m (Dk.mk l32 l36 x40 x41) ((l.getD x31 dWr).at_) ((l.getD x31 dWr).data)).1).fuse), .bool (((put_m (Dk.mk l32 l36 x40 x41) ((l.getD x31 dWr).at_) ((l.getD x31 dWr).data)).1).down)] 25, .see (Rs eS 1 l32 v33) F34, .see (Rs eWr 2 l36 v37) F38, .see (DkR ((put_m (Dk.mk l32 l36 x40 x41) ((l.getD x31 dWr).at_) ((l.getD x31 dWr).data)).1) v76 v77) F79, .blk g91 #[v76, v77, .int .i64 (((put_m (Dk.mk l32 l36 x40 x41) ((l.getD x31 dWr).at_) ((l.getD x31 dWr).data)).1).fuse), .bool (((put_m (Dk.mk l32 l36 x40 x41) ((l.getD x31 dWr).at_) ((l.getD x31 dWr).data)).1).down)] 25, .see (Rs eS 1 (((put_m (Dk.mk l32 l36 x40 x41) ((l.getD x31 dWr).at_) ((l.getD x31 dWr).data)).1).safe) v76) F172, .see (Rs eWr 2 (((put_m (Dk.mk l32 l36 x40 x41) ((l.getD x31 dWr).at_) ((l.getD x31 dWr).data)).1).loose) v77) F175] := hm173.derive ((hm173.from 5 rfl).mono (fun _ h => h.2))
      refine then_n (hR64 _ _ _ ⟨k49, x30, (x31 + 1), (((put_m (Dk.mk l32 l36 x40 x41) ((l.getD x31 dWr).at_) ((l.getD x31 dWr).data)).1).safe), (((put_m (Dk.mk l32 l36 x40 x41) ((l.getD x31 dWr).at_) ((l.getD x31 dWr).data)).1).loose), ((put_m (Dk.mk l32 l36 x40 x41) ((l.getD x31 dWr).at_) ((l.getD x31 dWr).data)).1).fuse, (((put_m (Dk.mk l32 l36 x40 x41) ((l.getD x31 dWr).at_) ((l.getD x31 dWr).data)).1).down), v76, F172, v77, F175, (fun qq => bif Nat.blt qq 24 then List.getD [u0 0, .pointer (some ⟨g91, 0, none⟩), .int .i64 ((put_m (Dk.mk l32 l36 x40 x41) ((l.getD x31 dWr).at_) ((l.getD x31 dWr).data)).2), .int .i64 ((x31 : Nat) : Int), lv0, .int .i64 ((l.length : Nat) : Int), .bool (decide (x31 < l.length)), .int .i64 ((x31 : Nat) : Int), .int .i64 (((x31 + 1) : Nat) : Int), .tuple #[.agg #[v76, v77, .int .i64 (((put_m (Dk.mk l32 l36 x40 x41) ((l.getD x31 dWr).at_) ((l.getD x31 dWr).data)).1).fuse), .bool (((put_m (Dk.mk l32 l36 x40 x41) ((l.getD x31 dWr).at_) ((l.getD x31 dWr).data)).1).down)], .int .i64 ((put_m (Dk.mk l32 l36 x40 x41) ((l.getD x31 dWr).at_) ((l.getD x31 dWr).data)).2)], .agg #[v33, v37, .int .i64 (x40), .bool (x41)], lv0, .int .i64 ((x31 : Nat) : Int), .pointer (some ⟨(bk lv0), (po lv0 + x31 * 2), none⟩), .pointer (some ⟨(bk lv0), ((po lv0 + x31 * 2) + 0), none⟩), .int .i64 ((l.getD x31 dWr).at_), lv0, .int .i64 ((x31 : Nat) : Int), .pointer (some ⟨(bk lv0), (po lv0 + x31 * 2), none⟩), .pointer (some ⟨(bk lv0), ((po lv0 + x31 * 2) + 1), none⟩), .string (tx ((l.getD x31 dWr).data)), .tuple #[.agg #[v76, v77, .int .i64 (((put_m (Dk.mk l32 l36 x40 x41) ((l.getD x31 dWr).at_) ((l.getD x31 dWr).data)).1).fuse), .bool (((put_m (Dk.mk l32 l36 x40 x41) ((l.getD x31 dWr).at_) ((l.getD x31 dWr).data)).1).down)], .int .i64 ((put_m (Dk.mk l32 l36 x40 x41) ((l.getD x31 dWr).at_) ((l.getD x31 dWr).data)).2)], .agg #[v76, v77, .int .i64 (((put_m (Dk.mk l32 l36 x40 x41) ((l.getD x31 dWr).at_) ((l.getD x31 dWr).data)).1).fuse), .bool (((put_m (Dk.mk l32 l36 x40 x41) ((l.getD x31 dWr).at_) ((l.getD x31 dWr).data)).1).down)], .int .i64 ((put_m (Dk.mk l32 l36 x40 x41) ((l.getD x31 dWr).at_) ((l.getD x31 dWr).data)).2)] qq undef else List.getD [.int .i64 ((put_m (Dk.mk l32 l36 x40 x41) ((l.getD x31 dWr).at_) ((l.getD x31 dWr).data)).2), .bool (decide ((put_m (Dk.mk l32 l36 x40 x41) ((l.getD x31 dWr).at_) ((l.getD x31 dWr).data)).2 = 0)), .bool (decide ((put_m (Dk.mk l32 l36 x40 x41) ((l.getD x31 dWr).at_) ((l.getD x31 dWr).data)).2 = 0)), u0 27, u0 28, .bool (decide ((put_m (Dk.mk l32 l36 x40 x41) ((l.getD x31 dWr).at_) ((l.getD x31 dWr).data)).2 = 11)), .bool (decide ((put_m (Dk.mk l32 l36 x40 x41) ((l.getD x31 dWr).at_) ((l.getD x31 dWr).data)).2 = 11)), u0 31, u0 32, u0 33, u0 34, u0 35, u0 36, u0 37, u0 38, u0 39, .bool (decide ((put_m (Dk.mk l32 l36 x40 x41) ((l.getD x31 dWr).at_) ((l.getD x31 dWr).data)).2 = 1)), .bool (decide ((put_m (Dk.mk l32 l36 x40 x41) ((l.getD x31 dWr).at_) ((l.getD x31 dWr).data)).2 = 1)), .agg #[v76, v77, .int .i64 (((put_m (Dk.mk l32 l36 x40 x41) ((l.getD x31 dWr).at_) ((l.getD x31 dWr).data)).1).fuse), .bool (((put_m (Dk.mk l32 l36 x40 x41) ((l.getD x31 dWr).at_) ((l.getD x31 dWr).data)).1).down)], .agg #[v33, v37, .int .i64 (x40), .bool (x41)], .bool ((same_m ((put_m (Dk.mk l32 l36 x40 x41) ((l.getD x31 dWr).at_) ((l.getD x31 dWr).data)).1) (Dk.mk l32 l36 x40 x41))), .bool (!(same_m ((put_m (Dk.mk l32 l36 x40 x41) ((l.getD x31 dWr).at_) ((l.getD x31 dWr).data)).1) (Dk.mk l32 l36 x40 x41))), .agg #[v76, v77, .int .i64 (((put_m (Dk.mk l32 l36 x40 x41) ((l.getD x31 dWr).at_) ((l.getD x31 dWr).data)).1).fuse), .bool (((put_m (Dk.mk l32 l36 x40 x41) ((l.getD x31 dWr).at_) ((l.getD x31 dWr).data)).1).down)]] (qq - 24) undef), rfl, (by first | omega | (simp; omega) | (simp at *; omega)), (hi50.trans (show fuse_m_b0 d fuse l (fuse_m_l0 d fuse l k49) x30 x31 l32 l36 x40 x41 = fuse_m_l0 d fuse l k49 (x30, (x31 + 1), (((put_m (Dk.mk l32 l36 x40 x41) ((l.getD x31 dWr).at_) ((l.getD x31 dWr).data)).1).safe), (((put_m (Dk.mk l32 l36 x40 x41) ((l.getD x31 dWr).at_) ((l.getD x31 dWr).data)).1).loose), ((put_m (Dk.mk l32 l36 x40 x41) ((l.getD x31 dWr).at_) ((l.getD x31 dWr).data)).1).fuse, (((put_m (Dk.mk l32 l36 x40 x41) ((l.getD x31 dWr).at_) ((l.getD x31 dWr).data)).1).down)) from by unfold fuse_m_b0; rw [if_pos hc69, if_neg hc127, if_neg hc139, if_pos hc160, if_neg hc164] <;> rfl)), (by first | omega | (have := UInt8.toNat_lt fuse; omega) | (simp; done) | (simp; omega) | (simp at *; omega)), (by first | omega | (have := UInt8.toNat_lt fuse; omega) | (simp; done) | (simp; omega) | (simp at *; omega)), (by first | omega | (have := UInt8.toNat_lt fuse; omega) | (simp; done) | (simp; omega) | (simp at *; omega)), (by first | omega | (have := UInt8.toNat_lt fuse; omega) | (simp; done) | (simp; omega) | (simp at *; omega)), (by first | omega | (have := UInt8.toNat_lt fuse; omega) | (simp; done) | (simp; omega) | (simp at *; omega)), rfl, (Mm.reorder hm176 [0, 1, 2, 7, 8] (by decide) rfl)⟩ ?_)
      omega
    refine wp_seq_k (fun K140 hK140 => ?_)
    refine wp_region_lit ?_
    refine lvw 55 (.int .i64 ((x30 : Nat) : Int)) rfl rfl (run_mv rfl rfl) ?_
    simp only [nz1, nz2, nz3]
    refine lvw 56 (.int .u8 ((fuse.toNat : Nat) : Int)) rfl rfl (run_mv rfl rfl) ?_
    simp only [nz1, nz2, nz3]
    refine lvw 57 (.int .i64 ((fuse.toNat : Nat) : Int)) rfl rfl (r_conv (k' := .i64) fuse.toNat fuse.toNat some_5 Try.underlying3 (wrap_nat (by have := fuse.toNat_lt; show _ < 9223372036854775808; omega)) rfl rfl) ?_
    simp only [nz1, nz2, nz3]
    refine lvb 58 (¬ x30 = fuse.toNat) rfl rfl (r_neq x30 fuse.toNat rfl rfl rfl) (fun hs141 => ?_) (fun hs141 => ?_)
    · simp only [nz1, nz2, nz3]
      refine lvw 59 (.bool true) rfl rfl (run_mv rfl rfl) ?_
      simp only [nz1, nz2, nz3]
      refine lst_skip 60 rfl rfl ?_
      simp only [nz1, nz2, nz3]
      refine lst_skip 61 rfl rfl ?_
      simp only [nz1, nz2, nz3]
      refine lst_skip 62 rfl rfl ?_
      simp only [nz1, nz2, nz3]
      refine lvw 63 (.bool true) rfl rfl (run_pick rfl rfl rfl) ?_
      simp only [nz1, nz2, nz3]
      refine wpList_nil ?_
      refine then_n (hK140 _ _ ?_)
      refine cond_t rfl ?_
      refine wp_seq_k (fun K142 hK142 => ?_)
      refine wp_region_lit ?_
      refine lvw 6 (.bool false) rfl rfl (run_as rfl rfl) ?_
      simp only [nz1, nz2, nz3]
      refine wpList_nil ?_
      refine then_n (hK142 _ _ ?_)
      refine wp_ret ?_
      refine blk_r ?_
      refine then_r ?_
      refine blk_r ?_
      refine then_r ?_
      refine then_r ?_
      refine blk_r ?_
      refine then_r ?_
      refine then_r ?_
      have he143 : fuse_m_l0 d fuse l ((l.length - 0) + 1) (0, 0, d.safe, d.loose, ((fuse.toNat : Nat) : Int), d.down) = .inr false := (hi50.trans (show fuse_m_b0 d fuse l (fuse_m_l0 d fuse l k49) x30 x31 l32 l36 x40 x41 = .inr false from by unfold fuse_m_b0; rw [if_pos hc69, if_neg hc127, if_pos hc139, if_pos hs141] <;> rfl))
      have he144 : fuse_m d fuse l = false := (show fuse_m d fuse l = false from by unfold fuse_m; rw [if_neg hs9, if_neg hs14, if_neg hc19, he143] <;> rfl)
      exact ⟨rfl, .bool false, res_t rfl rfl, ⟨by rw [he144], hm119.below⟩⟩
    simp only [nz1, nz2, nz3]
    refine lvw 59 (.bool false) rfl rfl (run_mv rfl rfl) ?_
    simp only [nz1, nz2, nz3]
    refine lvw 60 (.pointer (some ⟨g91, 3, none⟩)) rfl rfl (r_fa25_3 g91 0 rfl rfl) ?_
    simp only [nz1, nz2, nz3]
    refine lvw 61 (.bool (((put_m (Dk.mk l32 l36 x40 x41) ((l.getD x31 dWr).at_) ((l.getD x31 dWr).data)).1).down)) rfl rfl (r_load (hm119.at 6 rfl) rfl Try.underlying4 rfl rfl rfl) ?_
    simp only [nz1, nz2, nz3]
    refine lvw 62 (.bool (!(((put_m (Dk.mk l32 l36 x40 x41) ((l.getD x31 dWr).at_) ((l.getD x31 dWr).data)).1).down))) rfl rfl (r_not (((put_m (Dk.mk l32 l36 x40 x41) ((l.getD x31 dWr).at_) ((l.getD x31 dWr).data)).1).down) rfl rfl) ?_
    simp only [nz1, nz2, nz3]
    refine lvw 63 (.bool (!(((put_m (Dk.mk l32 l36 x40 x41) ((l.getD x31 dWr).at_) ((l.getD x31 dWr).data)).1).down))) rfl rfl (run_pickf rfl rfl rfl) ?_
    simp only [nz1, nz2, nz3]
    refine wpList_nil ?_
    refine then_n (hK140 _ _ ?_)
    refine cond_B (!(((put_m (Dk.mk l32 l36 x40 x41) ((l.getD x31 dWr).at_) ((l.getD x31 dWr).data)).1).down)) rfl (fun hc145 => ?_) (fun hc145 => ?_)
    · refine wp_seq_k (fun K146 hK146 => ?_)
      refine wp_region_lit ?_
      refine lvw 6 (.bool false) rfl rfl (run_as rfl rfl) ?_
      simp only [nz1, nz2, nz3]
      refine wpList_nil ?_
      refine then_n (hK146 _ _ ?_)
      refine wp_ret ?_
      refine blk_r ?_
      refine then_r ?_
      refine blk_r ?_
      refine then_r ?_
      refine then_r ?_
      refine blk_r ?_
      refine then_r ?_
      refine then_r ?_
      have he147 : fuse_m_l0 d fuse l ((l.length - 0) + 1) (0, 0, d.safe, d.loose, ((fuse.toNat : Nat) : Int), d.down) = .inr false := (hi50.trans (show fuse_m_b0 d fuse l (fuse_m_l0 d fuse l k49) x30 x31 l32 l36 x40 x41 = .inr false from by unfold fuse_m_b0; rw [if_pos hc69, if_neg hc127, if_pos hc139, if_neg hs141, if_pos hc145] <;> rfl))
      have he148 : fuse_m d fuse l = false := (show fuse_m d fuse l = false from by unfold fuse_m; rw [if_neg hs9, if_neg hs14, if_neg hc19, he147] <;> rfl)
      exact ⟨rfl, .bool false, res_t rfl rfl, ⟨by rw [he148], hm119.below⟩⟩
    refine wp_skip ?_
    refine blk_n ?_
    refine then_n (hK124 _ _ ?_)
    refine wp_region_lit ?_
    refine lvw 70 (.agg #[v76, v77, .int .i64 (((put_m (Dk.mk l32 l36 x40 x41) ((l.getD x31 dWr).at_) ((l.getD x31 dWr).data)).1).fuse), .bool (((put_m (Dk.mk l32 l36 x40 x41) ((l.getD x31 dWr).at_) ((l.getD x31 dWr).data)).1).down)]) rfl rfl (r_whole (hm119.at 6 rfl) Try.underlying25 rfl (by exact sz_25) rfl rfl) ?_
    simp only [nz1, nz2, nz3]
    have ho151 := (rd_one ((hm119.see 5 rfl).1))
    have ho152 := (rd_one ((hm119.see 5 rfl).2))
    refine lst rfl (m_store 2 25 _ _ 0 (.agg #[v76, v77, .int .i64 (((put_m (Dk.mk l32 l36 x40 x41) ((l.getD x31 dWr).at_) ((l.getD x31 dWr).data)).1).fuse), .bool (((put_m (Dk.mk l32 l36 x40 x41) ((l.getD x31 dWr).at_) ((l.getD x31 dWr).data)).1).down)]) (old := #[v33, v37, .int .i64 (x40), .bool (x41)]) (new := #[v76, v77, .int .i64 (((put_m (Dk.mk l32 l36 x40 x41) ((l.getD x31 dWr).at_) ((l.getD x31 dWr).data)).1).fuse), .bool (((put_m (Dk.mk l32 l36 x40 x41) ((l.getD x31 dWr).at_) ((l.getD x31 dWr).data)).1).down)]) hm119 rfl rfl rfl rfl rfl (by exact sz_25) (show 0 + 4 ≤ 4 from by decide) (by rw [Array.all_eq_true_iff_forall_mem]; intro x hx; simp only [Value.cells, List.mem_toArray, List.mem_cons, List.not_mem_nil, or_false] at hx; rcases hx with rfl | rfl | rfl | rfl <;> first | rfl | assumption) rfl (fun w149 (hm150 : Mm none (fun _ => True) w w149 [.see (DkR d dv0 dv1) Fd, .see (Rs eWr 2 l lv0) Fl, .blk g4 #[v76, v77, .int .i64 (((put_m (Dk.mk l32 l36 x40 x41) ((l.getD x31 dWr).at_) ((l.getD x31 dWr).data)).1).fuse), .bool (((put_m (Dk.mk l32 l36 x40 x41) ((l.getD x31 dWr).at_) ((l.getD x31 dWr).data)).1).down)] 25, .see (Rs eS 1 l32 v33) F34, .see (Rs eWr 2 l36 v37) F38, .see (DkR ((put_m (Dk.mk l32 l36 x40 x41) ((l.getD x31 dWr).at_) ((l.getD x31 dWr).data)).1) v76 v77) F79, .blk g91 #[v76, v77, .int .i64 (((put_m (Dk.mk l32 l36 x40 x41) ((l.getD x31 dWr).at_) ((l.getD x31 dWr).data)).1).fuse), .bool (((put_m (Dk.mk l32 l36 x40 x41) ((l.getD x31 dWr).at_) ((l.getD x31 dWr).data)).1).down)] 25]) => ?_))
    refine wpList_nil ?_
    refine blk_n ?_
    refine then_n (hK70 _ _ ?_)
    refine wp_region_lit ?_
    refine lvw 31 (.int .i64 ((x31 : Nat) : Int)) rfl rfl (run_mv rfl rfl) ?_
    simp only [nz1, nz2, nz3]
    refine lvw 32 (.int .i64 (((x31 + 1) : Nat) : Int)) rfl rfl (r_add x31 1 (show (x31 + 1) < 9223372036854775808 from by omega) rfl rfl rfl) ?_
    simp only [nz1, nz2, nz3]
    refine lvw 8 (.int .i64 (((x31 + 1) : Nat) : Int)) rfl rfl (run_as rfl rfl) ?_
    simp only [nz1, nz2, nz3]
    refine wpList_nil ?_
    obtain ⟨F153, hm154⟩ : ∃ F153, Mm none (fun _ => True) w w149 [.see (DkR d dv0 dv1) Fd, .see (Rs eWr 2 l lv0) Fl, .blk g4 #[v76, v77, .int .i64 (((put_m (Dk.mk l32 l36 x40 x41) ((l.getD x31 dWr).at_) ((l.getD x31 dWr).data)).1).fuse), .bool (((put_m (Dk.mk l32 l36 x40 x41) ((l.getD x31 dWr).at_) ((l.getD x31 dWr).data)).1).down)] 25, .see (Rs eS 1 l32 v33) F34, .see (Rs eWr 2 l36 v37) F38, .see (DkR ((put_m (Dk.mk l32 l36 x40 x41) ((l.getD x31 dWr).at_) ((l.getD x31 dWr).data)).1) v76 v77) F79, .blk g91 #[v76, v77, .int .i64 (((put_m (Dk.mk l32 l36 x40 x41) ((l.getD x31 dWr).at_) ((l.getD x31 dWr).data)).1).fuse), .bool (((put_m (Dk.mk l32 l36 x40 x41) ((l.getD x31 dWr).at_) ((l.getD x31 dWr).data)).1).down)] 25, .see (Rs eS 1 (((put_m (Dk.mk l32 l36 x40 x41) ((l.getD x31 dWr).at_) ((l.getD x31 dWr).data)).1).safe) v76) F153] := hm150.derive ((hm150.from 5 rfl).mono (fun _ h => h.1))
    obtain ⟨F156, hm157⟩ : ∃ F156, Mm none (fun _ => True) w w149 [.see (DkR d dv0 dv1) Fd, .see (Rs eWr 2 l lv0) Fl, .blk g4 #[v76, v77, .int .i64 (((put_m (Dk.mk l32 l36 x40 x41) ((l.getD x31 dWr).at_) ((l.getD x31 dWr).data)).1).fuse), .bool (((put_m (Dk.mk l32 l36 x40 x41) ((l.getD x31 dWr).at_) ((l.getD x31 dWr).data)).1).down)] 25, .see (Rs eS 1 l32 v33) F34, .see (Rs eWr 2 l36 v37) F38, .see (DkR ((put_m (Dk.mk l32 l36 x40 x41) ((l.getD x31 dWr).at_) ((l.getD x31 dWr).data)).1) v76 v77) F79, .blk g91 #[v76, v77, .int .i64 (((put_m (Dk.mk l32 l36 x40 x41) ((l.getD x31 dWr).at_) ((l.getD x31 dWr).data)).1).fuse), .bool (((put_m (Dk.mk l32 l36 x40 x41) ((l.getD x31 dWr).at_) ((l.getD x31 dWr).data)).1).down)] 25, .see (Rs eS 1 (((put_m (Dk.mk l32 l36 x40 x41) ((l.getD x31 dWr).at_) ((l.getD x31 dWr).data)).1).safe) v76) F153, .see (Rs eWr 2 (((put_m (Dk.mk l32 l36 x40 x41) ((l.getD x31 dWr).at_) ((l.getD x31 dWr).data)).1).loose) v77) F156] := hm154.derive ((hm154.from 5 rfl).mono (fun _ h => h.2))
    refine then_n (hR64 _ _ _ ⟨k49, x30, (x31 + 1), (((put_m (Dk.mk l32 l36 x40 x41) ((l.getD x31 dWr).at_) ((l.getD x31 dWr).data)).1).safe), (((put_m (Dk.mk l32 l36 x40 x41) ((l.getD x31 dWr).at_) ((l.getD x31 dWr).data)).1).loose), ((put_m (Dk.mk l32 l36 x40 x41) ((l.getD x31 dWr).at_) ((l.getD x31 dWr).data)).1).fuse, (((put_m (Dk.mk l32 l36 x40 x41) ((l.getD x31 dWr).at_) ((l.getD x31 dWr).data)).1).down), v76, F153, v77, F156, (fun qq => bif Nat.blt qq 24 then List.getD [u0 0, .pointer (some ⟨g91, 0, none⟩), .int .i64 ((put_m (Dk.mk l32 l36 x40 x41) ((l.getD x31 dWr).at_) ((l.getD x31 dWr).data)).2), .int .i64 ((x31 : Nat) : Int), lv0, .int .i64 ((l.length : Nat) : Int), .bool (decide (x31 < l.length)), .int .i64 ((x31 : Nat) : Int), .int .i64 (((x31 + 1) : Nat) : Int), .tuple #[.agg #[v76, v77, .int .i64 (((put_m (Dk.mk l32 l36 x40 x41) ((l.getD x31 dWr).at_) ((l.getD x31 dWr).data)).1).fuse), .bool (((put_m (Dk.mk l32 l36 x40 x41) ((l.getD x31 dWr).at_) ((l.getD x31 dWr).data)).1).down)], .int .i64 ((put_m (Dk.mk l32 l36 x40 x41) ((l.getD x31 dWr).at_) ((l.getD x31 dWr).data)).2)], .agg #[v33, v37, .int .i64 (x40), .bool (x41)], lv0, .int .i64 ((x31 : Nat) : Int), .pointer (some ⟨(bk lv0), (po lv0 + x31 * 2), none⟩), .pointer (some ⟨(bk lv0), ((po lv0 + x31 * 2) + 0), none⟩), .int .i64 ((l.getD x31 dWr).at_), lv0, .int .i64 ((x31 : Nat) : Int), .pointer (some ⟨(bk lv0), (po lv0 + x31 * 2), none⟩), .pointer (some ⟨(bk lv0), ((po lv0 + x31 * 2) + 1), none⟩), .string (tx ((l.getD x31 dWr).data)), .tuple #[.agg #[v76, v77, .int .i64 (((put_m (Dk.mk l32 l36 x40 x41) ((l.getD x31 dWr).at_) ((l.getD x31 dWr).data)).1).fuse), .bool (((put_m (Dk.mk l32 l36 x40 x41) ((l.getD x31 dWr).at_) ((l.getD x31 dWr).data)).1).down)], .int .i64 ((put_m (Dk.mk l32 l36 x40 x41) ((l.getD x31 dWr).at_) ((l.getD x31 dWr).data)).2)], .agg #[v76, v77, .int .i64 (((put_m (Dk.mk l32 l36 x40 x41) ((l.getD x31 dWr).at_) ((l.getD x31 dWr).data)).1).fuse), .bool (((put_m (Dk.mk l32 l36 x40 x41) ((l.getD x31 dWr).at_) ((l.getD x31 dWr).data)).1).down)], .int .i64 ((put_m (Dk.mk l32 l36 x40 x41) ((l.getD x31 dWr).at_) ((l.getD x31 dWr).data)).2)] qq undef else List.getD [.int .i64 ((put_m (Dk.mk l32 l36 x40 x41) ((l.getD x31 dWr).at_) ((l.getD x31 dWr).data)).2), .bool (decide ((put_m (Dk.mk l32 l36 x40 x41) ((l.getD x31 dWr).at_) ((l.getD x31 dWr).data)).2 = 0)), .bool (decide ((put_m (Dk.mk l32 l36 x40 x41) ((l.getD x31 dWr).at_) ((l.getD x31 dWr).data)).2 = 0)), u0 27, u0 28, .bool (decide ((put_m (Dk.mk l32 l36 x40 x41) ((l.getD x31 dWr).at_) ((l.getD x31 dWr).data)).2 = 11)), .bool (decide ((put_m (Dk.mk l32 l36 x40 x41) ((l.getD x31 dWr).at_) ((l.getD x31 dWr).data)).2 = 11)), .int .i64 ((x30 : Nat) : Int), .int .u8 ((fuse.toNat : Nat) : Int), .int .i64 ((fuse.toNat : Nat) : Int), .bool false, .bool false, .pointer (some ⟨g91, 3, none⟩), .bool (((put_m (Dk.mk l32 l36 x40 x41) ((l.getD x31 dWr).at_) ((l.getD x31 dWr).data)).1).down), .bool (!(((put_m (Dk.mk l32 l36 x40 x41) ((l.getD x31 dWr).at_) ((l.getD x31 dWr).data)).1).down)), .bool (!(((put_m (Dk.mk l32 l36 x40 x41) ((l.getD x31 dWr).at_) ((l.getD x31 dWr).data)).1).down)), u0 40, u0 41, u0 42, u0 43, u0 44, u0 45, .agg #[v76, v77, .int .i64 (((put_m (Dk.mk l32 l36 x40 x41) ((l.getD x31 dWr).at_) ((l.getD x31 dWr).data)).1).fuse), .bool (((put_m (Dk.mk l32 l36 x40 x41) ((l.getD x31 dWr).at_) ((l.getD x31 dWr).data)).1).down)]] (qq - 24) undef), rfl, (by first | omega | (simp; omega) | (simp at *; omega)), (hi50.trans (show fuse_m_b0 d fuse l (fuse_m_l0 d fuse l k49) x30 x31 l32 l36 x40 x41 = fuse_m_l0 d fuse l k49 (x30, (x31 + 1), (((put_m (Dk.mk l32 l36 x40 x41) ((l.getD x31 dWr).at_) ((l.getD x31 dWr).data)).1).safe), (((put_m (Dk.mk l32 l36 x40 x41) ((l.getD x31 dWr).at_) ((l.getD x31 dWr).data)).1).loose), ((put_m (Dk.mk l32 l36 x40 x41) ((l.getD x31 dWr).at_) ((l.getD x31 dWr).data)).1).fuse, (((put_m (Dk.mk l32 l36 x40 x41) ((l.getD x31 dWr).at_) ((l.getD x31 dWr).data)).1).down)) from by unfold fuse_m_b0; rw [if_pos hc69, if_neg hc127, if_pos hc139, if_neg hs141, if_neg hc145] <;> rfl)), (by first | omega | (have := UInt8.toNat_lt fuse; omega) | (simp; done) | (simp; omega) | (simp at *; omega)), (by first | omega | (have := UInt8.toNat_lt fuse; omega) | (simp; done) | (simp; omega) | (simp at *; omega)), (by first | omega | (have := UInt8.toNat_lt fuse; omega) | (simp; done) | (simp; omega) | (simp at *; omega)), (by first | omega | (have := UInt8.toNat_lt fuse; omega) | (simp; done) | (simp; omega) | (simp at *; omega)), (by first | omega | (have := UInt8.toNat_lt fuse; omega) | (simp; done) | (simp; omega) | (simp at *; omega)), rfl, (Mm.reorder hm157 [0, 1, 2, 7, 8] (by decide) rfl)⟩ ?_)
    omega
  rintro _ w187 ⟨y51, y52, y53, y56, y59, y60, v54, F55, v57, F58, yu0, hx61, hls, hll, hfu, hdn, hxl, rfl, hm188⟩
  have hq189 : fuse_m d fuse l = fuse_m_k0 d fuse l y51 y52 y53 y56 y59 y60 := (show fuse_m d fuse l = fuse_m_k0 d fuse l y51 y52 y53 y56 y59 y60 from by unfold fuse_m; rw [if_neg hs9, if_neg hs14, if_neg hc19, hx61] <;> rfl)
  refine then_n (hK28 _ _ ?_)
  refine wp_seq_k (fun K190 hK190 => ?_)
  refine wp_region_lit ?_
  refine lst rfl (m_call hm188 71 (.bool (awake_m)) rfl (run_awake rfl) (awake_any   _  ) (fun w191 (hm192 : Mm none (fun _ => True) w w191 [.see (DkR d dv0 dv1) Fd, .see (Rs eWr 2 l lv0) Fl, .blk g4 #[v54, v57, .int .i64 (y59), .bool (y60)] 25, .see (Rs eS 1 y53 v54) F55, .see (Rs eWr 2 y56 v57) F58]) => ?_))
  simp only [nz1, nz2, nz3]
  by_cases hs193 : awake_m = true
  rotate_left
  · rw [(Bool.eq_false_iff.2 hs193 : awake_m = false)]
    refine lvw 72 (.bool false) rfl rfl (run_mv rfl rfl) ?_
    simp only [nz1, nz2, nz3]
    refine lst_skip 73 rfl rfl ?_
    simp only [nz1, nz2, nz3]
    refine lst_skip 74 rfl rfl ?_
    simp only [nz1, nz2, nz3]
    refine lst_skip 75 rfl rfl ?_
    simp only [nz1, nz2, nz3]
    refine lst_skip 76 rfl rfl ?_
    simp only [nz1, nz2, nz3]
    refine lvw 77 (.bool false) rfl rfl (run_pickf rfl rfl rfl) ?_
    simp only [nz1, nz2, nz3]
    refine lvw 78 (.bool false) rfl rfl (run_mv rfl rfl) ?_
    simp only [nz1, nz2, nz3]
    refine lst_skip 79 rfl rfl ?_
    simp only [nz1, nz2, nz3]
    refine lst_skip 80 rfl rfl ?_
    simp only [nz1, nz2, nz3]
    refine lst_skip 81 rfl rfl ?_
    simp only [nz1, nz2, nz3]
    refine lst_skip 82 rfl rfl ?_
    simp only [nz1, nz2, nz3]
    refine lst_skip 83 rfl rfl ?_
    simp only [nz1, nz2, nz3]
    refine lst_skip 84 rfl rfl ?_
    simp only [nz1, nz2, nz3]
    refine lst_skip 85 rfl rfl ?_
    simp only [nz1, nz2, nz3]
    refine lst_skip 86 rfl rfl ?_
    simp only [nz1, nz2, nz3]
    refine lst_skip 87 rfl rfl ?_
    simp only [nz1, nz2, nz3]
    refine lst_skip 88 rfl rfl ?_
    simp only [nz1, nz2, nz3]
    refine lst_skip 89 rfl rfl ?_
    simp only [nz1, nz2, nz3]
    refine lvw 90 (.bool false) rfl rfl (run_pickf rfl rfl rfl) ?_
    simp only [nz1, nz2, nz3]
    refine lvw 6 (.bool false) rfl rfl (run_as rfl rfl) ?_
    simp only [nz1, nz2, nz3]
    refine wpList_nil ?_
    refine then_n (hK190 _ _ ?_)
    refine wp_ret ?_
    have he199 : fuse_m d fuse l = false := (hq189.trans (show fuse_m_k0 d fuse l y51 y52 y53 y56 y59 y60 = false from by unfold fuse_m_k0; rw [if_neg hs193] <;> rfl))
    exact ⟨rfl, .bool false, res_t rfl rfl, ⟨by rw [he199], hm192.below⟩⟩
  rw [(hs193 : awake_m = true)]
  refine lvw 72 (.bool true) rfl rfl (run_mv rfl rfl) ?_
  simp only [nz1, nz2, nz3]
  refine lvw 73 (.int .i64 ((y51 : Nat) : Int)) rfl rfl (run_mv rfl rfl) ?_
  simp only [nz1, nz2, nz3]
  refine lvw 74 (.int .u8 ((fuse.toNat : Nat) : Int)) rfl rfl (run_mv rfl rfl) ?_
  simp only [nz1, nz2, nz3]
  refine lvw 75 (.int .i64 ((fuse.toNat : Nat) : Int)) rfl rfl (r_conv (k' := .i64) fuse.toNat fuse.toNat some_5 Try.underlying3 (wrap_nat (by have := fuse.toNat_lt; show _ < 9223372036854775808; omega)) rfl rfl) ?_
  simp only [nz1, nz2, nz3]
  refine lvb 76 (y51 ≤ fuse.toNat) rfl rfl (r_leq y51 fuse.toNat rfl rfl rfl) (fun hs194 => ?_) (fun hs194 => ?_)
  rotate_left
  · simp only [nz1, nz2, nz3]
    refine lvw 77 (.bool false) rfl rfl (run_pick rfl rfl rfl) ?_
    simp only [nz1, nz2, nz3]
    refine lvw 78 (.bool false) rfl rfl (run_mv rfl rfl) ?_
    simp only [nz1, nz2, nz3]
    refine lst_skip 79 rfl rfl ?_
    simp only [nz1, nz2, nz3]
    refine lst_skip 80 rfl rfl ?_
    simp only [nz1, nz2, nz3]
    refine lst_skip 81 rfl rfl ?_
    simp only [nz1, nz2, nz3]
    refine lst_skip 82 rfl rfl ?_
    simp only [nz1, nz2, nz3]
    refine lst_skip 83 rfl rfl ?_
    simp only [nz1, nz2, nz3]
    refine lst_skip 84 rfl rfl ?_
    simp only [nz1, nz2, nz3]
    refine lst_skip 85 rfl rfl ?_
    simp only [nz1, nz2, nz3]
    refine lst_skip 86 rfl rfl ?_
    simp only [nz1, nz2, nz3]
    refine lst_skip 87 rfl rfl ?_
    simp only [nz1, nz2, nz3]
    refine lst_skip 88 rfl rfl ?_
    simp only [nz1, nz2, nz3]
    refine lst_skip 89 rfl rfl ?_
    simp only [nz1, nz2, nz3]
    refine lvw 90 (.bool false) rfl rfl (run_pickf rfl rfl rfl) ?_
    simp only [nz1, nz2, nz3]
    refine lvw 6 (.bool false) rfl rfl (run_as rfl rfl) ?_
    simp only [nz1, nz2, nz3]
    refine wpList_nil ?_
    refine then_n (hK190 _ _ ?_)
    refine wp_ret ?_
    have he198 : fuse_m d fuse l = false := (hq189.trans (show fuse_m_k0 d fuse l y51 y52 y53 y56 y59 y60 = false from by unfold fuse_m_k0; rw [if_pos hs193, if_neg hs194] <;> rfl))
    exact ⟨rfl, .bool false, res_t rfl rfl, ⟨by rw [he198], hm192.below⟩⟩
  simp only [nz1, nz2, nz3]
  refine lvw 77 (.bool true) rfl rfl (run_pick rfl rfl rfl) ?_
  simp only [nz1, nz2, nz3]
  refine lvw 78 (.bool true) rfl rfl (run_mv rfl rfl) ?_
  simp only [nz1, nz2, nz3]
  refine lvw 79 (.pointer (some ⟨g4, 3, none⟩)) rfl rfl (r_fa25_3 g4 0 rfl rfl) ?_
  simp only [nz1, nz2, nz3]
  refine lvB 80 y60 rfl rfl (r_load (hm192.at 2 rfl) rfl Try.underlying4 rfl rfl rfl) (fun hs195 => ?_) (fun hs195 => ?_)
  · simp only [nz1, nz2, nz3]
    refine lvw 81 (.bool true) rfl rfl (run_mv rfl rfl) ?_
    simp only [nz1, nz2, nz3]
    refine lst_skip 82 rfl rfl ?_
    simp only [nz1, nz2, nz3]
    refine lst_skip 83 rfl rfl ?_
    simp only [nz1, nz2, nz3]
    refine lst_skip 84 rfl rfl ?_
    simp only [nz1, nz2, nz3]
    refine lst_skip 85 rfl rfl ?_
    simp only [nz1, nz2, nz3]
    refine lst_skip 86 rfl rfl ?_
    simp only [nz1, nz2, nz3]
    refine lst_skip 87 rfl rfl ?_
    simp only [nz1, nz2, nz3]
    refine lst_skip 88 rfl rfl ?_
    simp only [nz1, nz2, nz3]
    refine lvw 89 (.bool true) rfl rfl (run_pick rfl rfl rfl) ?_
    simp only [nz1, nz2, nz3]
    refine lvw 90 (.bool true) rfl rfl (run_pick rfl rfl rfl) ?_
    simp only [nz1, nz2, nz3]
    refine lvw 6 (.bool true) rfl rfl (run_as rfl rfl) ?_
    simp only [nz1, nz2, nz3]
    refine wpList_nil ?_
    refine then_n (hK190 _ _ ?_)
    refine wp_ret ?_
    have he196 : fuse_m d fuse l = true := (hq189.trans (show fuse_m_k0 d fuse l y51 y52 y53 y56 y59 y60 = true from by unfold fuse_m_k0; rw [if_pos hs193, if_pos hs194, if_pos hs195] <;> rfl))
    exact ⟨rfl, .bool true, res_t rfl rfl, ⟨by rw [he196], hm192.below⟩⟩
  simp only [nz1, nz2, nz3]
  refine lvw 81 (.bool false) rfl rfl (run_mv rfl rfl) ?_
  simp only [nz1, nz2, nz3]
  refine lvw 82 (.pointer (some ⟨g4, 2, none⟩)) rfl rfl (r_fa25_2 g4 0 rfl rfl) ?_
  simp only [nz1, nz2, nz3]
  refine lvw 83 (.int .i64 (y59)) rfl rfl (r_load (hm192.at 2 rfl) rfl Try.underlying3 rfl rfl rfl) ?_
  simp only [nz1, nz2, nz3]
  refine lvw 84 (.int .u8 ((fuse.toNat : Nat) : Int)) rfl rfl (run_mv rfl rfl) ?_
  simp only [nz1, nz2, nz3]
  refine lvw 85 (.int .i64 ((fuse.toNat : Nat) : Int)) rfl rfl (r_conv (k' := .i64) fuse.toNat fuse.toNat some_5 Try.underlying3 (wrap_nat (by have := fuse.toNat_lt; show _ < 9223372036854775808; omega)) rfl rfl) ?_
  simp only [nz1, nz2, nz3]
  refine lvw 86 (.int .i64 ((y51 : Nat) : Int)) rfl rfl (run_mv rfl rfl) ?_
  simp only [nz1, nz2, nz3]
  refine lvw 87 (.int .i64 ((((fuse.toNat : Nat) : Int) - ((y51 : Nat) : Int)))) rfl rfl (z_sub ((fuse.toNat : Nat) : Int) ((y51 : Nat) : Int) _ (by have := UInt8.toNat_lt fuse; rw [IntKind.wrap_i64]; omega) rfl rfl rfl) ?_
  simp only [nz1, nz2, nz3]
  refine lvw 88 (.bool (decide (y59 = (((fuse.toNat : Nat) : Int) - ((y51 : Nat) : Int))))) rfl rfl (z_eql y59 (((fuse.toNat : Nat) : Int) - ((y51 : Nat) : Int)) rfl rfl rfl) ?_
  simp only [nz1, nz2, nz3]
  refine lvw 89 (.bool (decide (y59 = (((fuse.toNat : Nat) : Int) - ((y51 : Nat) : Int))))) rfl rfl (run_pickf rfl rfl rfl) ?_
  simp only [nz1, nz2, nz3]
  refine lvw 90 (.bool (decide (y59 = (((fuse.toNat : Nat) : Int) - ((y51 : Nat) : Int))))) rfl rfl (run_pick rfl rfl rfl) ?_
  simp only [nz1, nz2, nz3]
  refine lvw 6 (.bool (decide (y59 = (((fuse.toNat : Nat) : Int) - ((y51 : Nat) : Int))))) rfl rfl (run_as rfl rfl) ?_
  simp only [nz1, nz2, nz3]
  refine wpList_nil ?_
  refine then_n (hK190 _ _ ?_)
  refine wp_ret ?_
  have he197 : fuse_m d fuse l = (decide (y59 = (((fuse.toNat : Nat) : Int) - ((y51 : Nat) : Int)))) := (hq189.trans (show fuse_m_k0 d fuse l y51 y52 y53 y56 y59 y60 = (decide (y59 = (((fuse.toNat : Nat) : Int) - ((y51 : Nat) : Int)))) from by unfold fuse_m_k0; rw [if_pos hs193, if_pos hs194, if_neg hs195] <;> rfl))
  exact ⟨rfl, .bool (decide (y59 = (((fuse.toNat : Nat) : Int) - ((y51 : Nat) : Int)))), res_t rfl rfl, ⟨by rw [he197], hm192.below⟩⟩
theorem run_fuse {o : Oper} {a : Act} {w : World} {x0 x1 x2 : Operand} {v0 v1 v2 : Value} (ho : o.op = .call { callee := .value (.func 6), args := #[x0, x1, x2], argTypes := #[25, 5, 23] }) (h0 : a.eval x0 = v0) (h1 : a.eval x1 = v1) (h2 : a.eval x2 = v2) :
    (execOp a.eval o).run Try.prog w = .ok (.enter 6 #[v0, v1, v2]) w := by
  unfold execOp
  simp only [ho]
  have hf : a.eval (.func 6) = .func (.func 6) #[] #[] := rfl
  generalize a.eval = f at *
  go_simp
end Go.Proofs.Ytmammofbgllceaa.Bk
