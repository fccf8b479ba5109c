/- Layer 15: BlockLast. -/
import Derived.Test.YtmammofbgllceaaBkW
namespace Go.Proofs.Ytmammofbgllceaa.Bk
open Go.RowKit
open Go.Proofs.Ytmammofbgllceaa.Sym Go.Proofs.Ytmammofbgllceaa.Mem
open Go.Proofs.Ytmammofbgllceaa.Sx hiding Mm m_alloc m_store m_put m_call m_callx m_make m_append r_string r_ixS
set_option linter.unusedVariables false
attribute [local irreducible] wpList Oper.wp

def last_m_b0 (d : Dk) (l : List Wr) (rec : Nat × (List (List UInt8)) × (List Wr) × Int × Bool → Sum (Nat × (List (List UInt8)) × (List Wr) × Int × Bool) (Bool)) (x29 : Nat) (l30 : List (List UInt8)) (l34 : List Wr) (x38 : Int) (x39 : Bool) : Sum (Nat × (List (List UInt8)) × (List Wr) × Int × Bool) (Bool) :=
  if x29 < l.length then
    if ¬ (put_m (Dk.mk l30 l34 x38 x39) ((l.getD x29 dWr).at_) ((l.getD x29 dWr).data)).2 = 0 then
      rec ((x29 + 1), l30, l34, x38, x39)
    else
      if ¬ (get_m ((put_m (Dk.mk l30 l34 x38 x39) ((l.getD x29 dWr).at_) ((l.getD x29 dWr).data)).1) ((l.getD x29 dWr).at_)).2 = 0 then
        .inr false
      else
        if ¬ (flush_m ((put_m (Dk.mk l30 l34 x38 x39) ((l.getD x29 dWr).at_) ((l.getD x29 dWr).data)).1)).2 = 0 then
          .inr false
        else
          if ¬ (get_m ((flush_m ((put_m (Dk.mk l30 l34 x38 x39) ((l.getD x29 dWr).at_) ((l.getD x29 dWr).data)).1)).1) ((l.getD x29 dWr).at_)).2 = 0 then
            .inr false
          else
            if ¬ (crash_m ((put_m (Dk.mk l30 l34 x38 x39) ((l.getD x29 dWr).at_) ((l.getD x29 dWr).data)).1) ([] : List UInt8) (-1)).2 = 0 then
              .inr false
            else
              if ¬ (get_m ((put_m (Dk.mk l30 l34 x38 x39) ((l.getD x29 dWr).at_) ((l.getD x29 dWr).data)).1) ((l.getD x29 dWr).at_)).1 = (l.getD x29 dWr).data then
                .inr false
              else
                if ¬ (get_m ((flush_m ((put_m (Dk.mk l30 l34 x38 x39) ((l.getD x29 dWr).at_) ((l.getD x29 dWr).data)).1)).1) ((l.getD x29 dWr).at_)).1 = (l.getD x29 dWr).data then
                  .inr false
                else
                  if ¬ ((((crash_m ((put_m (Dk.mk l30 l34 x38 x39) ((l.getD x29 dWr).at_) ((l.getD x29 dWr).data)).1) ([] : List UInt8) (-1)).1).safe).getD (((l.getD x29 dWr).at_).toNat) []) = (l30.getD (((l.getD x29 dWr).at_).toNat) []) then
                    .inr false
                  else
                    rec ((x29 + 1), (((put_m (Dk.mk l30 l34 x38 x39) ((l.getD x29 dWr).at_) ((l.getD x29 dWr).data)).1).safe), (((put_m (Dk.mk l30 l34 x38 x39) ((l.getD x29 dWr).at_) ((l.getD x29 dWr).data)).1).loose), ((put_m (Dk.mk l30 l34 x38 x39) ((l.getD x29 dWr).at_) ((l.getD x29 dWr).data)).1).fuse, (((put_m (Dk.mk l30 l34 x38 x39) ((l.getD x29 dWr).at_) ((l.getD x29 dWr).data)).1).down))
  else
    .inl (x29, l30, l34, x38, x39)
def last_m_l0 (d : Dk) (l : List Wr) : Nat → Nat × (List (List UInt8)) × (List Wr) × Int × Bool → Sum (Nat × (List (List UInt8)) × (List Wr) × Int × Bool) (Bool)
  | 0, s => .inl s
  | nq + 1, s => last_m_b0 d l (last_m_l0 d l nq) s.1 s.2.1 s.2.2.1 s.2.2.2.1 s.2.2.2.2

def last_m_k0 (d : Dk) (l : List Wr) (y49 : Nat) (y50 : List (List UInt8)) (y53 : List Wr) (y56 : Int) (y57 : Bool) : Bool :=
  awake_m

def last_m (d : Dk) (l : List Wr) : Bool :=
  if (!(right_m d)) = true then
    awake_m
  else
    if d.down = true then
      awake_m
    else
      if 100 < l.length then
        awake_m
      else
        fin (last_m_l0 d l ((l.length - 0) + 1) (0, d.safe, d.loose, -1, d.down)) (fun r => r) (fun s => last_m_k0 d l s.1 s.2.1 s.2.2.1 s.2.2.2.1 s.2.2.2.2)

set_option maxHeartbeats 4000000 in
set_option maxRecDepth 100000 in
theorem last_any (d : Dk) (l : List Wr) (dv0 dv1 lv0 : Value) (w : World) (hd : DkR d dv0 dv1 w) (hl : Rs eWr 2 l lv0 w) (hp0 : d.safe.length ≤ 8796093021952) (hp1 : d.loose.length ≤ 5864062014634) (hp2 : l.length ≤ 5864062014634) : Calls Try.prog 7 #[.agg #[dv0, dv1, .int .i64 (d.fuse), .bool (d.down)], lv0] w (fun e w' => e = .returned (.bool ((last_m d l))) ∧ Below w.heap.size w w') := by
  go_enter Try.func7, Try.ntmps7
  have hm00 := Mm.nil none (fun _ => True) w
  obtain ⟨Fd, hm01⟩ : ∃ Fd, Mm none (fun _ => True) w w [.see (DkR d dv0 dv1) Fd] := hm00.come (DkR_all hd)
  obtain ⟨Fl, hm02⟩ : ∃ Fl, Mm none (fun _ => True) w w [.see (DkR d dv0 dv1) Fd, .see (Rs eWr 2 l lv0) Fl] := hm01.come (Rs.all hl)
  have hm0 := hm02
  refine wp_seq_k (fun K1 hK1 => ?_)
  refine wp_region_lit ?_
  refine lst rfl (m_alloc (c := #[dv0, dv1, .int .i64 (d.fuse), .bool (d.down)]) (T := 25) hm0 2 rfl (run_box rfl rfl) (fun g4 w2 (hm3 : Mm none (fun _ => True) w w2 [.see (DkR d dv0 dv1) Fd, .see (Rs eWr 2 l lv0) Fl, .blk g4 #[dv0, dv1, .int .i64 (d.fuse), .bool (d.down)] 25]) => ?_))
  simp only [nz1, nz2, nz3]
  refine lvw 4 (.bool false) rfl rfl (run_as rfl rfl) ?_
  simp only [nz1, nz2, nz3]
  refine wpList_nil ?_
  refine then_n (hK1 _ _ ?_)
  refine wp_seq_k (fun K5 hK5 => ?_)
  refine wp_seq_k (fun K6 hK6 => ?_)
  refine wp_region_lit ?_
  refine lvw 16 (.agg #[dv0, dv1, .int .i64 (d.fuse), .bool (d.down)]) rfl rfl (r_whole (hm3.at 2 rfl) Try.underlying25 rfl (by exact sz_25) rfl rfl) ?_
  simp only [nz1, nz2, nz3]
  refine lst rfl (m_call hm3 17 (.bool ((right_m d))) rfl (run_right rfl rfl) (right_any d dv0 dv1 _ (hm3.see 0 rfl) (by first | omega | assumption | decide | (simp; done) | (simp; omega))) (fun w7 (hm8 : Mm none (fun _ => True) w w7 [.see (DkR d dv0 dv1) Fd, .see (Rs eWr 2 l lv0) Fl, .blk g4 #[dv0, dv1, .int .i64 (d.fuse), .bool (d.down)] 25]) => ?_))
  simp only [nz1, nz2, nz3]
  refine lvB 18 (!(right_m d)) rfl rfl (r_not (right_m d) rfl rfl) (fun hs9 => ?_) (fun hs9 => ?_)
  · simp only [nz1, nz2, nz3]
    refine lvw 19 (.bool true) rfl rfl (run_mv rfl rfl) ?_
    simp only [nz1, nz2, nz3]
    refine lst_skip 20 rfl rfl ?_
    simp only [nz1, nz2, nz3]
    refine lst_skip 21 rfl rfl ?_
    simp only [nz1, nz2, nz3]
    refine lvw 22 (.bool true) rfl rfl (run_pick rfl rfl rfl) ?_
    simp only [nz1, nz2, nz3]
    refine lvw 23 (.bool true) rfl rfl (run_mv rfl rfl) ?_
    simp only [nz1, nz2, nz3]
    refine lst_skip 24 rfl rfl ?_
    simp only [nz1, nz2, nz3]
    refine lst_skip 25 rfl rfl ?_
    simp only [nz1, nz2, nz3]
    refine lst_skip 26 rfl rfl ?_
    simp only [nz1, nz2, nz3]
    refine lvw 27 (.bool true) rfl rfl (run_pick rfl rfl rfl) ?_
    simp only [nz1, nz2, nz3]
    refine wpList_nil ?_
    refine then_n (hK6 _ _ ?_)
    refine cond_t rfl ?_
    refine wp_seq_k (fun K10 hK10 => ?_)
    refine wp_region_lit ?_
    refine lst rfl (m_call hm8 28 (.bool (awake_m)) rfl (run_awake rfl) (awake_any   _  ) (fun w11 (hm12 : Mm none (fun _ => True) w w11 [.see (DkR d dv0 dv1) Fd, .see (Rs eWr 2 l lv0) Fl, .blk g4 #[dv0, dv1, .int .i64 (d.fuse), .bool (d.down)] 25]) => ?_))
    simp only [nz1, nz2, nz3]
    refine lvw 4 (.bool (awake_m)) rfl rfl (run_as rfl rfl) ?_
    simp only [nz1, nz2, nz3]
    refine wpList_nil ?_
    refine then_n (hK10 _ _ ?_)
    refine wp_ret ?_
    refine then_r ?_
    have he13 : last_m d l = awake_m := (show last_m d l = awake_m from by unfold last_m; rw [if_pos hs9] <;> rfl)
    exact ⟨rfl, .bool (awake_m), res_t rfl rfl, ⟨by rw [he13], hm12.below⟩⟩
  simp only [nz1, nz2, nz3]
  refine lvw 19 (.bool false) rfl rfl (run_mv rfl rfl) ?_
  simp only [nz1, nz2, nz3]
  refine lvw 20 (.pointer (some ⟨g4, 3, none⟩)) rfl rfl (r_fa25_3 g4 0 rfl rfl) ?_
  simp only [nz1, nz2, nz3]
  refine lvB 21 d.down rfl rfl (r_load (hm8.at 2 rfl) rfl Try.underlying4 rfl rfl rfl) (fun hs14 => ?_) (fun hs14 => ?_)
  · simp only [nz1, nz2, nz3]
    refine lvw 22 (.bool true) rfl rfl (run_pickf rfl rfl rfl) ?_
    simp only [nz1, nz2, nz3]
    refine lvw 23 (.bool true) rfl rfl (run_mv rfl rfl) ?_
    simp only [nz1, nz2, nz3]
    refine lst_skip 24 rfl rfl ?_
    simp only [nz1, nz2, nz3]
    refine lst_skip 25 rfl rfl ?_
    simp only [nz1, nz2, nz3]
    refine lst_skip 26 rfl rfl ?_
    simp only [nz1, nz2, nz3]
    refine lvw 27 (.bool true) rfl rfl (run_pick rfl rfl rfl) ?_
    simp only [nz1, nz2, nz3]
    refine wpList_nil ?_
    refine then_n (hK6 _ _ ?_)
    refine cond_t rfl ?_
    refine wp_seq_k (fun K15 hK15 => ?_)
    refine wp_region_lit ?_
    refine lst rfl (m_call hm8 28 (.bool (awake_m)) rfl (run_awake rfl) (awake_any   _  ) (fun w16 (hm17 : Mm none (fun _ => True) w w16 [.see (DkR d dv0 dv1) Fd, .see (Rs eWr 2 l lv0) Fl, .blk g4 #[dv0, dv1, .int .i64 (d.fuse), .bool (d.down)] 25]) => ?_))
    simp only [nz1, nz2, nz3]
    refine lvw 4 (.bool (awake_m)) rfl rfl (run_as rfl rfl) ?_
    simp only [nz1, nz2, nz3]
    refine wpList_nil ?_
    refine then_n (hK15 _ _ ?_)
    refine wp_ret ?_
    refine then_r ?_
    have he18 : last_m d l = awake_m := (show last_m d l = awake_m from by unfold last_m; rw [if_neg hs9, if_pos hs14] <;> rfl)
    exact ⟨rfl, .bool (awake_m), res_t rfl rfl, ⟨by rw [he18], hm17.below⟩⟩
  simp only [nz1, nz2, nz3]
  refine lvw 22 (.bool false) rfl rfl (run_pickf rfl rfl rfl) ?_
  simp only [nz1, nz2, nz3]
  refine lvw 23 (.bool false) rfl rfl (run_mv rfl rfl) ?_
  simp only [nz1, nz2, nz3]
  refine lvw 24 (lv0) rfl rfl (run_mv rfl rfl) ?_
  simp only [nz1, nz2, nz3]
  refine lvw 25 (.int .i64 ((l.length : Nat) : Int)) rfl rfl (s_len ((hm8.see 1 rfl)) rfl Try.underlying23 rfl) ?_
  simp only [nz1, nz2, nz3]
  refine lvw 26 (.bool (decide (100 < l.length))) rfl rfl (r_gtr l.length 100 rfl rfl rfl) ?_
  simp only [nz1, nz2, nz3]
  refine lvw 27 (.bool (decide (100 < l.length))) rfl rfl (run_pickf rfl rfl rfl) ?_
  simp only [nz1, nz2, nz3]
  refine wpList_nil ?_
  refine then_n (hK6 _ _ ?_)
  refine cond_d (100 < l.length) rfl (fun hc19 => ?_) (fun hc19 => ?_)
  · refine wp_seq_k (fun K20 hK20 => ?_)
    refine wp_region_lit ?_
    refine lst rfl (m_call hm8 28 (.bool (awake_m)) rfl (run_awake rfl) (awake_any   _  ) (fun w21 (hm22 : Mm none (fun _ => True) w w21 [.see (DkR d dv0 dv1) Fd, .see (Rs eWr 2 l lv0) Fl, .blk g4 #[dv0, dv1, .int .i64 (d.fuse), .bool (d.down)] 25]) => ?_))
    simp only [nz1, nz2, nz3]
    refine lvw 4 (.bool (awake_m)) rfl rfl (run_as rfl rfl) ?_
    simp only [nz1, nz2, nz3]
    refine wpList_nil ?_
    refine then_n (hK20 _ _ ?_)
    refine wp_ret ?_
    refine then_r ?_
    have he23 : last_m d l = awake_m := (show last_m d l = awake_m from by unfold last_m; rw [if_neg hs9, if_neg hs14, if_pos hc19] <;> rfl)
    exact ⟨rfl, .bool (awake_m), res_t rfl rfl, ⟨by rw [he23], hm22.below⟩⟩
  refine wp_skip ?_
  refine then_n (hK5 _ _ ?_)
  refine wp_seq_k (fun K24 hK24 => ?_)
  refine wp_region_lit ?_
  refine lvw 29 (.pointer (some ⟨g4, 2, none⟩)) rfl rfl (r_fa25_2 g4 0 rfl rfl) ?_
  simp only [nz1, nz2, nz3]
  refine lst rfl (m_store 2 3 _ _ 2 (.int .i64 (-1)) (old := #[dv0, dv1, .int .i64 (d.fuse), .bool (d.down)]) (new := #[dv0, dv1, .int .i64 (-1), .bool (d.down)]) hm8 rfl rfl rfl rfl rfl (by exact sz_3) (show 2 + 1 ≤ 4 from by decide) (one_all rfl) rfl (fun w25 (hm26 : Mm none (fun _ => True) w w25 [.see (DkR d dv0 dv1) Fd, .see (Rs eWr 2 l lv0) Fl, .blk g4 #[dv0, dv1, .int .i64 (-1), .bool (d.down)] 25]) => ?_))
  refine wpList_nil ?_
  refine then_n (hK24 _ _ ?_)
  refine wp_seq_k (fun K27 hK27 => ?_)
  refine wp_seq_k (fun K28 hK28 => ?_)
  refine wp_region_lit ?_
  refine lvw 5 (.int .i64 0) rfl rfl (run_as rfl rfl) ?_
  simp only [nz1, nz2, nz3]
  refine wpList_nil ?_
  refine then_n (hK28 _ _ ?_)
  obtain ⟨F40, hm41⟩ : ∃ F40, Mm none (fun _ => True) w w25 [.see (DkR d dv0 dv1) Fd, .see (Rs eWr 2 l lv0) Fl, .blk g4 #[dv0, dv1, .int .i64 (-1), .bool (d.down)] 25, .see (Rs eS 1 d.safe dv0) F40] := hm26.derive ((hm26.from 0 rfl).mono (fun _ h => h.1))
  obtain ⟨F43, hm44⟩ : ∃ F43, Mm none (fun _ => True) w w25 [.see (DkR d dv0 dv1) Fd, .see (Rs eWr 2 l lv0) Fl, .blk g4 #[dv0, dv1, .int .i64 (-1), .bool (d.down)] 25, .see (Rs eS 1 d.safe dv0) F40, .see (Rs eWr 2 d.loose dv1) F43] := hm41.derive ((hm41.from 0 rfl).mono (fun _ h => h.2))
  refine wp_cutK (fun a' w' => ∃ (y49 : Nat) (y50 : List (List UInt8)) (y53 : List Wr) (y56 : Int) (y57 : Bool) (v51 : Value) (F52 : Nat → Prop) (v54 : Value) (F55 : Nat → Prop) (yu0 : Nat → Value), last_m_l0 d l ((l.length - 0) + 1) (0, d.safe, d.loose, -1, d.down) = .inl (y49, y50, y53, y56, y57) ∧ (y50.length ≤ 8796093021952) ∧ (y53.length ≤ d.loose.length + y49) ∧ (y56 ≤ 9223372036854775807) ∧ a' = ⟨#[.agg #[dv0, dv1, .int .i64 (d.fuse), .bool (d.down)], lv0, .pointer (some ⟨g4, 0, none⟩), undef, yu0 0, .int .i64 ((y49 : Nat) : Int), yu0 1, yu0 2, yu0 3, yu0 4, yu0 5, yu0 6, yu0 7, yu0 8, yu0 9, yu0 10, .agg #[dv0, dv1, .int .i64 (d.fuse), .bool (d.down)], .bool ((right_m d)), .bool false, .bool false, .pointer (some ⟨g4, 3, none⟩), .bool false, .bool false, .bool false, lv0, .int .i64 ((l.length : Nat) : Int), .bool (decide (100 < l.length)), .bool (decide (100 < l.length)), undef, .pointer (some ⟨g4, 2, none⟩), yu0 11, yu0 12, yu0 13, yu0 14, yu0 15, yu0 16, yu0 17, yu0 18, yu0 19, yu0 20, yu0 21, yu0 22, yu0 23, yu0 24, yu0 25, yu0 26, yu0 27, yu0 28, yu0 29, yu0 30, yu0 31, yu0 32, yu0 33, yu0 34, yu0 35, yu0 36, yu0 37, yu0 38, yu0 39, yu0 40, yu0 41, yu0 42, yu0 43, yu0 44, yu0 45, yu0 46, yu0 47, yu0 48, yu0 49, yu0 50, yu0 51, yu0 52, yu0 53, yu0 54, yu0 55, yu0 56, yu0 57, yu0 58, yu0 59, yu0 60, yu0 61, yu0 62, yu0 63, yu0 64, yu0 65, yu0 66, yu0 67, yu0 68, yu0 69, yu0 70, yu0 71, yu0 72, yu0 73, yu0 74, yu0 75, yu0 76, yu0 77, yu0 78, yu0 79, yu0 80, yu0 81, yu0 82, yu0 83, yu0 84, yu0 85, yu0 86, yu0 87, yu0 88, yu0 89, yu0 90, yu0 91, yu0 92, yu0 93, yu0 94, yu0 95, yu0 96, yu0 97, yu0 98, yu0 99, yu0 100, yu0 101, yu0 102, yu0 103, yu0 104, yu0 105, yu0 106, yu0 107, yu0 108, yu0 109, yu0 110, yu0 111, yu0 112, yu0 113, yu0 114, yu0 115, yu0 116, yu0 117, undef], []⟩ ∧ Mm none (fun _ => True) w w' [.see (DkR d dv0 dv1) Fd, .see (Rs eWr 2 l lv0) Fl, .blk g4 #[v51, v54, .int .i64 (y56), .bool (y57)] 25, .see (Rs eS 1 y50 v51) F52, .see (Rs eWr 2 y53 v54) F55]) ?_ ?_
  · refine wp_block ?_
    refine wp_loop_n (fun n' a' w' => ∃ (n46 : Nat) (x29 : Nat) (l30 : List (List UInt8)) (l34 : List Wr) (x38 : Int) (x39 : Bool) (v31 : Value) (F32 : Nat → Prop) (v35 : Value) (F36 : Nat → Prop) (u0 : Nat → Value), n' = n46 ∧ (l.length - x29) < n46 ∧ last_m_l0 d l ((l.length - 0) + 1) (0, d.safe, d.loose, -1, d.down) = last_m_l0 d l n46 (x29, l30, l34, x38, x39) ∧ (l30.length ≤ 8796093021952) ∧ (l34.length ≤ d.loose.length + x29) ∧ (x38 ≤ 9223372036854775807) ∧ a' = ⟨#[.agg #[dv0, dv1, .int .i64 (d.fuse), .bool (d.down)], lv0, .pointer (some ⟨g4, 0, none⟩), undef, u0 0, .int .i64 ((x29 : Nat) : Int), u0 1, u0 2, u0 3, u0 4, u0 5, u0 6, u0 7, u0 8, u0 9, u0 10, .agg #[dv0, dv1, .int .i64 (d.fuse), .bool (d.down)], .bool ((right_m d)), .bool false, .bool false, .pointer (some ⟨g4, 3, none⟩), .bool false, .bool false, .bool false, lv0, .int .i64 ((l.length : Nat) : Int), .bool (decide (100 < l.length)), .bool (decide (100 < l.length)), undef, .pointer (some ⟨g4, 2, none⟩), u0 11, u0 12, u0 13, u0 14, u0 15, u0 16, u0 17, u0 18, u0 19, u0 20, u0 21, u0 22, u0 23, u0 24, u0 25, u0 26, u0 27, u0 28, u0 29, u0 30, u0 31, u0 32, u0 33, u0 34, u0 35, u0 36, u0 37, u0 38, u0 39, u0 40, u0 41, u0 42, u0 43, u0 44, u0 45, u0 46, u0 47, u0 48, u0 49, u0 50, u0 51, u0 52, u0 53, u0 54, u0 55, u0 56, u0 57, u0 58, u0 59, u0 60, u0 61, u0 62, u0 63, u0 64, u0 65, u0 66, u0 67, u0 68, u0 69, u0 70, u0 71, u0 72, u0 73, u0 74, u0 75, u0 76, u0 77, u0 78, u0 79, u0 80, u0 81, u0 82, u0 83, u0 84, u0 85, u0 86, u0 87, u0 88, u0 89, u0 90, u0 91, u0 92, u0 93, u0 94, u0 95, u0 96, u0 97, u0 98, u0 99, u0 100, u0 101, u0 102, u0 103, u0 104, u0 105, u0 106, u0 107, u0 108, u0 109, u0 110, u0 111, u0 112, u0 113, u0 114, u0 115, u0 116, u0 117, undef], []⟩ ∧ Mm none (fun _ => True) w w' [.see (DkR d dv0 dv1) Fd, .see (Rs eWr 2 l lv0) Fl, .blk g4 #[v31, v35, .int .i64 (x38), .bool (x39)] 25, .see (Rs eS 1 l30 v31) F32, .see (Rs eWr 2 l34 v35) F36]) ⟨((l.length - 0) + 1), 0, d.safe, d.loose, -1, d.down, dv0, F40, dv1, F43, (fun qq => bif Nat.blt qq 24 then List.getD [.bool false, undef, undef, undef, undef, undef, undef, undef, undef, undef, undef, undef, undef, undef, undef, undef, undef, undef, undef, undef, undef, undef, undef, undef] qq undef else bif Nat.blt qq 48 then List.getD [undef, undef, undef, undef, undef, undef, undef, undef, undef, undef, undef, undef, undef, undef, undef, undef, undef, undef, undef, undef, undef, undef, undef, undef] (qq - 24) undef else bif Nat.blt qq 72 then List.getD [undef, undef, undef, undef, undef, undef, undef, undef, undef, undef, undef, undef, undef, undef, undef, undef, undef, undef, undef, undef, undef, undef, undef, undef] (qq - 48) undef else bif Nat.blt qq 96 then List.getD [undef, undef, undef, undef, undef, undef, undef, undef, undef, undef, undef, undef, undef, undef, undef, undef, undef, undef, undef, undef, undef, undef, undef, undef] (qq - 72) undef else List.getD [undef, undef, undef, undef, undef, undef, undef, undef, undef, undef, undef, undef, undef, undef, undef, undef, undef, undef, undef, undef, undef, undef] (qq - 96) undef), rfl, Nat.lt_succ_self _, rfl, (by first | omega | (simp; done) | (simp; omega) | (simp at *; omega)), (by first | omega | (simp; done) | (simp; omega) | (simp at *; omega)), (by first | omega | (simp; done) | (simp; omega) | (simp at *; omega)), rfl, hm44⟩ ?_
    rintro n46 _ w59 ⟨_, x29, l30, l34, x38, x39, v31, F32, v35, F36, u0, rfl, hl63, hi48, hls, hll, hfu, rfl, hm60⟩ R61 hR61
    obtain ⟨k47, rfl⟩ : ∃ k, n46 = k + 1 := ⟨n46 - 1, by omega⟩
    refine wp_seq_k (fun K64 hK64 => ?_)
    refine wp_seq_k (fun K65 hK65 => ?_)
    refine wp_region_lit ?_
    refine lvw 30 (.int .i64 ((x29 : Nat) : Int)) rfl rfl (run_mv rfl rfl) ?_
    simp only [nz1, nz2, nz3]
    refine lvw 31 (lv0) rfl rfl (run_mv rfl rfl) ?_
    simp only [nz1, nz2, nz3]
    refine lvw 32 (.int .i64 ((l.length : Nat) : Int)) rfl rfl (s_len ((hm60.see 1 rfl)) rfl Try.underlying23 rfl) ?_
    simp only [nz1, nz2, nz3]
    refine lvw 33 (.bool (decide (x29 < l.length))) rfl rfl (r_lss x29 l.length rfl rfl rfl) ?_
    simp only [nz1, nz2, nz3]
    refine wpList_nil ?_
    refine then_n (hK65 _ _ ?_)
    refine cond_d (x29 < l.length) rfl (fun hc66 => ?_) (fun hc66 => ?_)
    rotate_left
    · refine wp_exit ?_
      refine then_x ?_
      refine then_x ?_
      refine blk_x ?_
      refine then_n ?_
      obtain ⟨F225, hm226⟩ : ∃ F225, Mm none (fun _ => True) w w59 [.see (DkR d dv0 dv1) Fd, .see (Rs eWr 2 l lv0) Fl, .blk g4 #[v31, v35, .int .i64 (x38), .bool (x39)] 25, .see (Rs eS 1 l30 v31) F32, .see (Rs eWr 2 l34 v35) F36, .see (Rs eS 1 l30 v31) F225] := hm60.derive (hm60.from 3 rfl)
      obtain ⟨F228, hm229⟩ : ∃ F228, Mm none (fun _ => True) w w59 [.see (DkR d dv0 dv1) Fd, .see (Rs eWr 2 l lv0) Fl, .blk g4 #[v31, v35, .int .i64 (x38), .bool (x39)] 25, .see (Rs eS 1 l30 v31) F32, .see (Rs eWr 2 l34 v35) F36, .see (Rs eS 1 l30 v31) F225, .see (Rs eWr 2 l34 v35) F228] := hm226.derive (hm226.from 4 rfl)
      exact ⟨x29, l30, l34, x38, x39, v31, F225, v35, F228, (fun qq => bif Nat.blt qq 24 then List.getD [u0 0, u0 1, u0 2, u0 3, u0 4, u0 5, u0 6, u0 7, u0 8, u0 9, u0 10, .int .i64 ((x29 : Nat) : Int), lv0, .int .i64 ((l.length : Nat) : Int), .bool (decide (x29 < l.length)), u0 15, u0 16, u0 17, u0 18, u0 19, u0 20, u0 21, u0 22, u0 23] qq undef else bif Nat.blt qq 48 then List.getD [u0 24, u0 25, u0 26, u0 27, u0 28, u0 29, u0 30, u0 31, u0 32, u0 33, u0 34, u0 35, u0 36, u0 37, u0 38, u0 39, u0 40, u0 41, u0 42, u0 43, u0 44, u0 45, u0 46, u0 47] (qq - 24) undef else bif Nat.blt qq 72 then List.getD [u0 48, u0 49, u0 50, u0 51, u0 52, u0 53, u0 54, u0 55, u0 56, u0 57, u0 58, u0 59, u0 60, u0 61, u0 62, u0 63, u0 64, u0 65, u0 66, u0 67, u0 68, u0 69, u0 70, u0 71] (qq - 48) undef else bif Nat.blt qq 96 then List.getD [u0 72, u0 73, u0 74, u0 75, u0 76, u0 77, u0 78, u0 79, u0 80, u0 81, u0 82, u0 83, u0 84, u0 85, u0 86, u0 87, u0 88, u0 89, u0 90, u0 91, u0 92, u0 93, u0 94, u0 95] (qq - 72) undef else List.getD [u0 96, u0 97, u0 98, u0 99, u0 100, u0 101, u0 102, u0 103, u0 104, u0 105, u0 106, u0 107, u0 108, u0 109, u0 110, u0 111, u0 112, u0 113, u0 114, u0 115, u0 116, u0 117] (qq - 96) undef), (hi48.trans (show last_m_b0 d l (last_m_l0 d l k47) x29 l30 l34 x38 x39 = .inl (x29, l30, l34, x38, x39) from by unfold last_m_b0; rw [if_neg hc66] <;> rfl)), (by first | omega | (simp; done) | (simp; omega) | (simp at *; omega)), (by first | omega | (simp; done) | (simp; omega) | (simp at *; omega)), (by first | omega | (simp; done) | (simp; omega) | (simp at *; omega)), rfl, (Mm.reorder hm229 [0, 1, 2, 5, 6] (by decide) rfl)⟩
    refine wp_skip ?_
    refine then_n (hK64 _ _ ?_)
    refine wp_seq_k (fun K67 hK67 => ?_)
    refine wp_block ?_
    refine wp_seq_k (fun K68 hK68 => ?_)
    refine wp_mono (Q := fun e a' w' => e = Exit.normal ∧ ∃ (v73 : Value) (v74 : Value) (F76 : Nat → Prop) (g88 : Nat), a' = ⟨#[.agg #[dv0, dv1, .int .i64 (d.fuse), .bool (d.down)], lv0, .pointer (some ⟨g4, 0, none⟩), undef, u0 0, .int .i64 ((x29 : Nat) : Int), .pointer (some ⟨g88, 0, none⟩), .int .i64 ((put_m (Dk.mk l30 l34 x38 x39) ((l.getD x29 dWr).at_) ((l.getD x29 dWr).data)).2), u0 3, u0 4, u0 5, u0 6, u0 7, u0 8, u0 9, u0 10, .agg #[dv0, dv1, .int .i64 (d.fuse), .bool (d.down)], .bool ((right_m d)), .bool false, .bool false, .pointer (some ⟨g4, 3, none⟩), .bool false, .bool false, .bool false, lv0, .int .i64 ((l.length : Nat) : Int), .bool (decide (100 < l.length)), .bool (decide (100 < l.length)), undef, .pointer (some ⟨g4, 2, none⟩), .int .i64 ((x29 : Nat) : Int), lv0, .int .i64 ((l.length : Nat) : Int), .bool (decide (x29 < l.length)), u0 15, u0 16, .tuple #[.agg #[v73, v74, .int .i64 (((put_m (Dk.mk l30 l34 x38 x39) ((l.getD x29 dWr).at_) ((l.getD x29 dWr).data)).1).fuse), .bool (((put_m (Dk.mk l30 l34 x38 x39) ((l.getD x29 dWr).at_) ((l.getD x29 dWr).data)).1).down)], .int .i64 ((put_m (Dk.mk l30 l34 x38 x39) ((l.getD x29 dWr).at_) ((l.getD x29 dWr).data)).2)], .agg #[v31, v35, .int .i64 (x38), .bool (x39)], lv0, .int .i64 ((x29 : Nat) : Int), .pointer (some ⟨(bk lv0), (po lv0 + x29 * 2), none⟩), .pointer (some ⟨(bk lv0), ((po lv0 + x29 * 2) + 0), none⟩), .int .i64 ((l.getD x29 dWr).at_), lv0, .int .i64 ((x29 : Nat) : Int), .pointer (some ⟨(bk lv0), (po lv0 + x29 * 2), none⟩), .pointer (some ⟨(bk lv0), ((po lv0 + x29 * 2) + 1), none⟩), .string (tx ((l.getD x29 dWr).data)), .tuple #[.agg #[v73, v74, .int .i64 (((put_m (Dk.mk l30 l34 x38 x39) ((l.getD x29 dWr).at_) ((l.getD x29 dWr).data)).1).fuse), .bool (((put_m (Dk.mk l30 l34 x38 x39) ((l.getD x29 dWr).at_) ((l.getD x29 dWr).data)).1).down)], .int .i64 ((put_m (Dk.mk l30 l34 x38 x39) ((l.getD x29 dWr).at_) ((l.getD x29 dWr).data)).2)], .agg #[v73, v74, .int .i64 (((put_m (Dk.mk l30 l34 x38 x39) ((l.getD x29 dWr).at_) ((l.getD x29 dWr).data)).1).fuse), .bool (((put_m (Dk.mk l30 l34 x38 x39) ((l.getD x29 dWr).at_) ((l.getD x29 dWr).data)).1).down)], .int .i64 ((put_m (Dk.mk l30 l34 x38 x39) ((l.getD x29 dWr).at_) ((l.getD x29 dWr).data)).2), u0 32, u0 33, u0 34, u0 35, u0 36, u0 37, u0 38, u0 39, u0 40, u0 41, u0 42, u0 43, u0 44, u0 45, u0 46, u0 47, u0 48, u0 49, u0 50, u0 51, u0 52, u0 53, u0 54, u0 55, u0 56, u0 57, u0 58, u0 59, u0 60, u0 61, u0 62, u0 63, u0 64, u0 65, u0 66, u0 67, u0 68, u0 69, u0 70, u0 71, u0 72, u0 73, u0 74, u0 75, u0 76, u0 77, u0 78, u0 79, u0 80, u0 81, u0 82, u0 83, u0 84, u0 85, u0 86, u0 87, u0 88, u0 89, u0 90, u0 91, u0 92, u0 93, u0 94, u0 95, u0 96, u0 97, u0 98, u0 99, u0 100, u0 101, u0 102, u0 103, u0 104, u0 105, u0 106, u0 107, u0 108, u0 109, u0 110, u0 111, u0 112, u0 113, u0 114, u0 115, u0 116, u0 117, undef], []⟩ ∧ Mm none (fun _ => True) w w' [.see (DkR d dv0 dv1) Fd, .see (Rs eWr 2 l lv0) Fl, .blk g4 #[v31, v35, .int .i64 (x38), .bool (x39)] 25, .see (Rs eS 1 l30 v31) F32, .see (Rs eWr 2 l34 v35) F36, .see (DkR ((put_m (Dk.mk l30 l34 x38 x39) ((l.getD x29 dWr).at_) ((l.getD x29 dWr).data)).1) v73 v74) F76, .blk g88 #[v73, v74, .int .i64 (((put_m (Dk.mk l30 l34 x38 x39) ((l.getD x29 dWr).at_) ((l.getD x29 dWr).data)).1).fuse), .bool (((put_m (Dk.mk l30 l34 x38 x39) ((l.getD x29 dWr).at_) ((l.getD x29 dWr).data)).1).down)] 25]) ?_ ?_
    · have hm69 := hm60.drew
      refine wp_region_held_drew (S := fun w' => Mem.Blk w' g4 (#[v31, v35, .int .i64 (x38), .bool (x39)]) 25 ∧ Rs eWr 2 l lv0 w') (by kernel_rfl) (⟨hm69.at 2 rfl, ((hm69.see 1 rfl))⟩) (fun _ => ?_)
      generalize w59.drew = w70 at *
      refine Sym.take_at 0 37 (.agg #[v31, v35, .int .i64 (x38), .bool (x39)]) rfl rfl (by kernel_rfl) (by kernel_rfl) (by kernel_rfl) (fun _ _ _ h => nomatch h.1) rfl (fun _ hw => r_whole hw.1 Try.underlying25 rfl (by exact sz_25) rfl rfl) (⟨hm69.at 2 rfl, ((hm69.see 1 rfl))⟩) ?_
      simp only [nz1, nz2, nz3]
      refine Sym.take_at 1 38 (lv0) rfl rfl (by kernel_rfl) (by kernel_rfl) (by kernel_rfl) (fun _ _ _ h => nomatch h.1) rfl (fun _ hw => run_mv rfl rfl) (⟨hm69.at 2 rfl, ((hm69.see 1 rfl))⟩) ?_
      simp only [nz1, nz2, nz3]
      refine Sym.take_at 2 39 (.int .i64 ((x29 : Nat) : Int)) rfl rfl (by kernel_rfl) (by kernel_rfl) (by kernel_rfl) (fun _ _ _ h => nomatch h.1) rfl (fun _ hw => run_mv rfl rfl) (⟨hm69.at 2 rfl, ((hm69.see 1 rfl))⟩) ?_
      simp only [nz1, nz2, nz3]
      refine Sym.take_at 3 40 (.pointer (some ⟨(bk lv0), (po lv0 + x29 * 2), none⟩)) rfl rfl (by kernel_rfl) (by kernel_rfl) (by kernel_rfl) (fun _ _ _ h => nomatch h.1) rfl (fun _ hw => r_ixv ((hm69.see 1 rfl)) x29 (by omega) Try.underlying23 sz_42 rfl rfl rfl) (⟨hm69.at 2 rfl, ((hm69.see 1 rfl))⟩) ?_
      simp only [nz1, nz2, nz3]
      refine Sym.take_at 4 41 (.pointer (some ⟨(bk lv0), ((po lv0 + x29 * 2) + 0), none⟩)) rfl rfl (by kernel_rfl) (by kernel_rfl) (by kernel_rfl) (fun _ _ _ h => nomatch h.1) rfl (fun _ hw => r_fa42_0 (bk lv0) (po lv0 + x29 * 2) rfl rfl) (⟨hm69.at 2 rfl, ((hm69.see 1 rfl))⟩) ?_
      simp only [nz1, nz2, nz3]
      refine Sym.take_at 5 42 (.int .i64 ((l.getD x29 dWr).at_)) rfl rfl (by kernel_rfl) (by kernel_rfl) (by kernel_rfl) (fun _ _ _ h => nomatch h.1) rfl (fun _ hw => r_cellw (Rs.cell hw.2 eWr_len dWr x29 (by omega) 0 _ rfl) Try.underlying3 rfl rfl rfl) (⟨hm69.at 2 rfl, ((hm69.see 1 rfl))⟩) ?_
      simp only [nz1, nz2, nz3]
      refine Sym.take_at 6 43 (lv0) rfl rfl (by kernel_rfl) (by kernel_rfl) (by kernel_rfl) (fun _ _ _ h => nomatch h.1) rfl (fun _ hw => run_mv rfl rfl) (⟨hm69.at 2 rfl, ((hm69.see 1 rfl))⟩) ?_
      simp only [nz1, nz2, nz3]
      refine Sym.take_at 7 44 (.int .i64 ((x29 : Nat) : Int)) rfl rfl (by kernel_rfl) (by kernel_rfl) (by kernel_rfl) (fun _ _ _ h => nomatch h.1) rfl (fun _ hw => run_mv rfl rfl) (⟨hm69.at 2 rfl, ((hm69.see 1 rfl))⟩) ?_
      simp only [nz1, nz2, nz3]
      refine Sym.take_at 8 45 (.pointer (some ⟨(bk lv0), (po lv0 + x29 * 2), none⟩)) rfl rfl (by kernel_rfl) (by kernel_rfl) (by kernel_rfl) (fun _ _ _ h => nomatch h.1) rfl (fun _ hw => r_ixv ((hm69.see 1 rfl)) x29 (by omega) Try.underlying23 sz_42 rfl rfl rfl) (⟨hm69.at 2 rfl, ((hm69.see 1 rfl))⟩) ?_
      simp only [nz1, nz2, nz3]
      refine Sym.take_at 9 46 (.pointer (some ⟨(bk lv0), ((po lv0 + x29 * 2) + 1), none⟩)) rfl rfl (by kernel_rfl) (by kernel_rfl) (by kernel_rfl) (fun _ _ _ h => nomatch h.1) rfl (fun _ hw => r_fa42_1 (bk lv0) (po lv0 + x29 * 2) rfl rfl) (⟨hm69.at 2 rfl, ((hm69.see 1 rfl))⟩) ?_
      simp only [nz1, nz2, nz3]
      refine Sym.take_at 10 47 (.string (tx ((l.getD x29 dWr).data))) rfl rfl (by kernel_rfl) (by kernel_rfl) (by kernel_rfl) (fun _ _ _ h => nomatch h.1) rfl (fun _ hw => r_cellw (Rs.cell hw.2 eWr_len dWr x29 (by omega) 1 _ rfl) Try.underlying9 rfl rfl rfl) (⟨hm69.at 2 rfl, ((hm69.see 1 rfl))⟩) ?_
      simp only [nz1, nz2, nz3]
      refine two_ready 11 15 (by kernel_rfl) ?_ ?_
      · refine opd rfl rfl (m_callx hm69 48 rfl (run_put rfl rfl rfl rfl) (put_any (Dk.mk l30 l34 x38 x39) ((l.getD x29 dWr).at_) ((l.getD x29 dWr).data) v31 v35 (seeS _) _ ((hm69.from 3 rfl).and (hm69.from 4 rfl)) (by first | omega | assumption | decide | (simp; done) | (simp; omega)) (by first | omega | assumption | decide | (simp; done) | (simp; omega)) (by first | omega | assumption | decide | (simp; done) | (simp; omega))) (fun vv77 w71 hR78 hb79 hm72 => ?_))
        obtain ⟨v73, v74, rfl, hg80⟩ := hR78
        obtain ⟨F76, hm81⟩ : ∃ F76, Mm none (fun _ => True) w w71 [.see (DkR d dv0 dv1) Fd, .see (Rs eWr 2 l lv0) Fl, .blk g4 #[v31, v35, .int .i64 (x38), .bool (x39)] 25, .see (Rs eS 1 l30 v31) F32, .see (Rs eWr 2 l34 v35) F36, .see (DkR ((put_m (Dk.mk l30 l34 x38 x39) ((l.getD x29 dWr).at_) ((l.getD x29 dWr).data)).1) v73 v74) F76] := Mm.tookS hm69 hb79 hg80
        clear hm72 hg80 hb79
        have hf82 : (put_m (Dk.mk l30 l34 x38 x39) ((l.getD x29 dWr).at_) ((l.getD x29 dWr).data)).1.safe.length = l30.length := (put_near (Dk.mk l30 l34 x38 x39) ((l.getD x29 dWr).at_) ((l.getD x29 dWr).data)).1
        have hf83 : (put_m (Dk.mk l30 l34 x38 x39) ((l.getD x29 dWr).at_) ((l.getD x29 dWr).data)).1.loose.length ≤ l34.length + 1 := (put_near (Dk.mk l30 l34 x38 x39) ((l.getD x29 dWr).at_) ((l.getD x29 dWr).data)).2.1
        have hf84 : (put_m (Dk.mk l30 l34 x38 x39) ((l.getD x29 dWr).at_) ((l.getD x29 dWr).data)).1.fuse ≤ 9223372036854775807 := (put_near (Dk.mk l30 l34 x38 x39) ((l.getD x29 dWr).at_) ((l.getD x29 dWr).data)).2.2 (show x38 ≤ 9223372036854775807 from (by first | omega | (simp; done) | (simp; omega)))
        have hf85 : (put_m (Dk.mk l30 l34 x38 x39) ((l.getD x29 dWr).at_) ((l.getD x29 dWr).data)).2 ≠ 0 ∨ (0 ≤ (l.getD x29 dWr).at_ ∧ (l.getD x29 dWr).at_ < (l30.length : Int)) := put_at (Dk.mk l30 l34 x38 x39) ((l.getD x29 dWr).at_) ((l.getD x29 dWr).data)
        refine ⟨⟨hm81.at 2 rfl, ((hm81.see 1 rfl))⟩, ?_⟩
        simp only [nz1, nz2, nz3]
        refine Sym.take_at 12 36 (.tuple #[.agg #[v73, v74, .int .i64 (((put_m (Dk.mk l30 l34 x38 x39) ((l.getD x29 dWr).at_) ((l.getD x29 dWr).data)).1).fuse), .bool (((put_m (Dk.mk l30 l34 x38 x39) ((l.getD x29 dWr).at_) ((l.getD x29 dWr).data)).1).down)], .int .i64 ((put_m (Dk.mk l30 l34 x38 x39) ((l.getD x29 dWr).at_) ((l.getD x29 dWr).data)).2)]) rfl rfl (by kernel_rfl) (by kernel_rfl) (by kernel_rfl) (fun _ _ _ h => nomatch h.1) rfl (fun _ hw => run_mv rfl rfl) (⟨hm81.at 2 rfl, ((hm81.see 1 rfl))⟩) ?_
        simp only [nz1, nz2, nz3]
        refine Sym.take_at 13 49 (.agg #[v73, v74, .int .i64 (((put_m (Dk.mk l30 l34 x38 x39) ((l.getD x29 dWr).at_) ((l.getD x29 dWr).data)).1).fuse), .bool (((put_m (Dk.mk l30 l34 x38 x39) ((l.getD x29 dWr).at_) ((l.getD x29 dWr).data)).1).down)]) rfl rfl (by kernel_rfl) (by kernel_rfl) (by kernel_rfl) (fun _ _ _ h => nomatch h.1) rfl (fun _ hw => run_ex rfl rfl rfl) (⟨hm81.at 2 rfl, ((hm81.see 1 rfl))⟩) ?_
        simp only [nz1, nz2, nz3]
        refine Sym.take_at 14 50 (.int .i64 ((put_m (Dk.mk l30 l34 x38 x39) ((l.getD x29 dWr).at_) ((l.getD x29 dWr).data)).2)) rfl rfl (by kernel_rfl) (by kernel_rfl) (by kernel_rfl) (fun _ _ _ h => nomatch h.1) rfl (fun _ hw => run_ex rfl rfl rfl) (⟨hm81.at 2 rfl, ((hm81.see 1 rfl))⟩) ?_
        simp only [nz1, nz2, nz3]
        refine one_ready 15 (by kernel_rfl) ?_
        refine opd rfl rfl (m_alloc (c := #[.slice none 0 0, .slice none 0 0, .int .i64 0, .bool false]) (T := 25) hm81 6 rfl (by unfold execOp; go_simp; try rfl) (fun g88 w86 hm87 => ?_))
        refine ⟨⟨hm87.at 2 rfl, ((hm87.see 1 rfl))⟩, ?_⟩
        simp only [nz1, nz2, nz3]
        refine one_ready 16 (by kernel_rfl) ?_
        have ho91 := (rd_one ((hm87.see 5 rfl).1))
        have ho92 := (rd_one ((hm87.see 5 rfl).2))
        refine opd rfl rfl (m_store 6 25 _ _ 0 (.agg #[v73, v74, .int .i64 (((put_m (Dk.mk l30 l34 x38 x39) ((l.getD x29 dWr).at_) ((l.getD x29 dWr).data)).1).fuse), .bool (((put_m (Dk.mk l30 l34 x38 x39) ((l.getD x29 dWr).at_) ((l.getD x29 dWr).data)).1).down)]) (old := #[.slice none 0 0, .slice none 0 0, .int .i64 0, .bool false]) (new := #[v73, v74, .int .i64 (((put_m (Dk.mk l30 l34 x38 x39) ((l.getD x29 dWr).at_) ((l.getD x29 dWr).data)).1).fuse), .bool (((put_m (Dk.mk l30 l34 x38 x39) ((l.getD x29 dWr).at_) ((l.getD x29 dWr).data)).1).down)]) hm87 rfl rfl rfl rfl rfl (by exact sz_25) (show 0 + 4 ≤ 4 from by decide) (by rw [Array.all_eq_true_iff_forall_mem]; intro x hx; simp only [Value.cells, List.mem_toArray, List.mem_cons, List.not_mem_nil, or_false] at hx; rcases hx with rfl | rfl | rfl | rfl <;> first | rfl | assumption) rfl (fun w89 hm90 => ?_))
        refine ⟨⟨hm90.at 2 rfl, ((hm90.see 1 rfl))⟩, ?_⟩
        refine one_ready 17 (by kernel_rfl) ?_
        refine opd rfl rfl (w_value 7 (.int .i64 ((put_m (Dk.mk l30 l34 x38 x39) ((l.getD x29 dWr).at_) ((l.getD x29 dWr).data)).2)) rfl (run_as rfl rfl) ⟨⟨hm90.at 2 rfl, ((hm90.see 1 rfl))⟩, ?_⟩)
        simp only [nz1, nz2, nz3]
        refine wpAnyH_done (by kernel_rfl) ?_ _
        exact ⟨rfl, v73, v74, F76, g88, rfl, hm90⟩
      · refine opd rfl rfl (m_alloc (c := #[.slice none 0 0, .slice none 0 0, .int .i64 0, .bool false]) (T := 25) hm69 6 rfl (by unfold execOp; go_simp; try rfl) (fun g95 w93 hm94 => ?_))
        refine ⟨⟨hm94.at 2 rfl, ((hm94.see 1 rfl))⟩, ?_⟩
        simp only [nz1, nz2, nz3]
        refine one_ready 11 (by kernel_rfl) ?_
        refine opd rfl rfl (m_callx hm94 48 rfl (run_put rfl rfl rfl rfl) (put_any (Dk.mk l30 l34 x38 x39) ((l.getD x29 dWr).at_) ((l.getD x29 dWr).data) v31 v35 (seeS _) _ ((hm94.from 3 rfl).and (hm94.from 4 rfl)) (by first | omega | assumption | decide | (simp; done) | (simp; omega)) (by first | omega | assumption | decide | (simp; done) | (simp; omega)) (by first | omega | assumption | decide | (simp; done) | (simp; omega))) (fun vv102 w96 hR103 hb104 hm97 => ?_))
        obtain ⟨v98, v99, rfl, hg105⟩ := hR103
        obtain ⟨F101, hm106⟩ : ∃ F101, Mm none (fun _ => True) w w96 [.see (DkR d dv0 dv1) Fd, .see (Rs eWr 2 l lv0) Fl, .blk g4 #[v31, v35, .int .i64 (x38), .bool (x39)] 25, .see (Rs eS 1 l30 v31) F32, .see (Rs eWr 2 l34 v35) F36, .blk g95 #[.slice none 0 0, .slice none 0 0, .int .i64 0, .bool false] 25, .see (DkR ((put_m (Dk.mk l30 l34 x38 x39) ((l.getD x29 dWr).at_) ((l.getD x29 dWr).data)).1) v98 v99) F101] := Mm.tookS hm94 hb104 hg105
        clear hm97 hg105 hb104
        have hf107 : (put_m (Dk.mk l30 l34 x38 x39) ((l.getD x29 dWr).at_) ((l.getD x29 dWr).data)).1.safe.length = l30.length := (put_near (Dk.mk l30 l34 x38 x39) ((l.getD x29 dWr).at_) ((l.getD x29 dWr).data)).1
        have hf108 : (put_m (Dk.mk l30 l34 x38 x39) ((l.getD x29 dWr).at_) ((l.getD x29 dWr).data)).1.loose.length ≤ l34.length + 1 := (put_near (Dk.mk l30 l34 x38 x39) ((l.getD x29 dWr).at_) ((l.getD x29 dWr).data)).2.1
        have hf109 : (put_m (Dk.mk l30 l34 x38 x39) ((l.getD x29 dWr).at_) ((l.getD x29 dWr).data)).1.fuse ≤ 9223372036854775807 := (put_near (Dk.mk l30 l34 x38 x39) ((l.getD x29 dWr).at_) ((l.getD x29 dWr).data)).2.2 (show x38 ≤ 9223372036854775807 from (by first | omega | (simp; done) | (simp; omega)))
        have hf110 : (put_m (Dk.mk l30 l34 x38 x39) ((l.getD x29 dWr).at_) ((l.getD x29 dWr).data)).2 ≠ 0 ∨ (0 ≤ (l.getD x29 dWr).at_ ∧ (l.getD x29 dWr).at_ < (l30.length : Int)) := put_at (Dk.mk l30 l34 x38 x39) ((l.getD x29 dWr).at_) ((l.getD x29 dWr).data)
        refine ⟨⟨hm106.at 2 rfl, ((hm106.see 1 rfl))⟩, ?_⟩
        simp only [nz1, nz2, nz3]
        refine Sym.take_at 12 36 (.tuple #[.agg #[v98, v99, .int .i64 (((put_m (Dk.mk l30 l34 x38 x39) ((l.getD x29 dWr).at_) ((l.getD x29 dWr).data)).1).fuse), .bool (((put_m (Dk.mk l30 l34 x38 x39) ((l.getD x29 dWr).at_) ((l.getD x29 dWr).data)).1).down)], .int .i64 ((put_m (Dk.mk l30 l34 x38 x39) ((l.getD x29 dWr).at_) ((l.getD x29 dWr).data)).2)]) rfl rfl (by kernel_rfl) (by kernel_rfl) (by kernel_rfl) (fun _ _ _ h => nomatch h.1) rfl (fun _ hw => run_mv rfl rfl) (⟨hm106.at 2 rfl, ((hm106.see 1 rfl))⟩) ?_
        simp only [nz1, nz2, nz3]
        refine Sym.take_at 13 49 (.agg #[v98, v99, .int .i64 (((put_m (Dk.mk l30 l34 x38 x39) ((l.getD x29 dWr).at_) ((l.getD x29 dWr).data)).1).fuse), .bool (((put_m (Dk.mk l30 l34 x38 x39) ((l.getD x29 dWr).at_) ((l.getD x29 dWr).data)).1).down)]) rfl rfl (by kernel_rfl) (by kernel_rfl) (by kernel_rfl) (fun _ _ _ h => nomatch h.1) rfl (fun _ hw => run_ex rfl rfl rfl) (⟨hm106.at 2 rfl, ((hm106.see 1 rfl))⟩) ?_
        simp only [nz1, nz2, nz3]
        refine Sym.take_at 14 50 (.int .i64 ((put_m (Dk.mk l30 l34 x38 x39) ((l.getD x29 dWr).at_) ((l.getD x29 dWr).data)).2)) rfl rfl (by kernel_rfl) (by kernel_rfl) (by kernel_rfl) (fun _ _ _ h => nomatch h.1) rfl (fun _ hw => run_ex rfl rfl rfl) (⟨hm106.at 2 rfl, ((hm106.see 1 rfl))⟩) ?_
        simp only [nz1, nz2, nz3]
        refine one_ready 16 (by kernel_rfl) ?_
        have ho113 := (rd_one ((hm106.see 6 rfl).1))
        have ho114 := (rd_one ((hm106.see 6 rfl).2))
        refine opd rfl rfl (m_store 5 25 _ _ 0 (.agg #[v98, v99, .int .i64 (((put_m (Dk.mk l30 l34 x38 x39) ((l.getD x29 dWr).at_) ((l.getD x29 dWr).data)).1).fuse), .bool (((put_m (Dk.mk l30 l34 x38 x39) ((l.getD x29 dWr).at_) ((l.getD x29 dWr).data)).1).down)]) (old := #[.slice none 0 0, .slice none 0 0, .int .i64 0, .bool false]) (new := #[v98, v99, .int .i64 (((put_m (Dk.mk l30 l34 x38 x39) ((l.getD x29 dWr).at_) ((l.getD x29 dWr).data)).1).fuse), .bool (((put_m (Dk.mk l30 l34 x38 x39) ((l.getD x29 dWr).at_) ((l.getD x29 dWr).data)).1).down)]) hm106 rfl rfl rfl rfl rfl (by exact sz_25) (show 0 + 4 ≤ 4 from by decide) (by rw [Array.all_eq_true_iff_forall_mem]; intro x hx; simp only [Value.cells, List.mem_toArray, List.mem_cons, List.not_mem_nil, or_false] at hx; rcases hx with rfl | rfl | rfl | rfl <;> first | rfl | assumption) rfl (fun w111 hm112 => ?_))
        refine ⟨⟨hm112.at 2 rfl, ((hm112.see 1 rfl))⟩, ?_⟩
        refine one_ready 17 (by kernel_rfl) ?_
        refine opd rfl rfl (w_value 7 (.int .i64 ((put_m (Dk.mk l30 l34 x38 x39) ((l.getD x29 dWr).at_) ((l.getD x29 dWr).data)).2)) rfl (run_as rfl rfl) ⟨⟨hm112.at 2 rfl, ((hm112.see 1 rfl))⟩, ?_⟩)
        simp only [nz1, nz2, nz3]
        refine wpAnyH_done (by kernel_rfl) ?_ _
        exact ⟨rfl, v98, v99, F101, g95, rfl, (Mm.reorder hm112 [0, 1, 2, 3, 4, 6, 5] (by decide) rfl)⟩
    clear hm60
    rintro _ _ w115 ⟨rfl, v73, v74, F76, g88, rfl, hm116⟩
    have hf117 : (put_m (Dk.mk l30 l34 x38 x39) ((l.getD x29 dWr).at_) ((l.getD x29 dWr).data)).1.safe.length = l30.length := (put_near (Dk.mk l30 l34 x38 x39) ((l.getD x29 dWr).at_) ((l.getD x29 dWr).data)).1
    have hf118 : (put_m (Dk.mk l30 l34 x38 x39) ((l.getD x29 dWr).at_) ((l.getD x29 dWr).data)).1.loose.length ≤ l34.length + 1 := (put_near (Dk.mk l30 l34 x38 x39) ((l.getD x29 dWr).at_) ((l.getD x29 dWr).data)).2.1
    have hf119 : (put_m (Dk.mk l30 l34 x38 x39) ((l.getD x29 dWr).at_) ((l.getD x29 dWr).data)).1.fuse ≤ 9223372036854775807 := (put_near (Dk.mk l30 l34 x38 x39) ((l.getD x29 dWr).at_) ((l.getD x29 dWr).data)).2.2 (show x38 ≤ 9223372036854775807 from (by first | omega | (simp; done) | (simp; omega)))
    have hf120 : (put_m (Dk.mk l30 l34 x38 x39) ((l.getD x29 dWr).at_) ((l.getD x29 dWr).data)).2 ≠ 0 ∨ (0 ≤ (l.getD x29 dWr).at_ ∧ (l.getD x29 dWr).at_ < (l30.length : Int)) := put_at (Dk.mk l30 l34 x38 x39) ((l.getD x29 dWr).at_) ((l.getD x29 dWr).data)
    refine then_n (hK68 _ _ ?_)
    refine wp_seq_k (fun K121 hK121 => ?_)
    refine wp_seq_k (fun K122 hK122 => ?_)
    refine wp_region_lit ?_
    refine lvw 51 (.int .i64 ((put_m (Dk.mk l30 l34 x38 x39) ((l.getD x29 dWr).at_) ((l.getD x29 dWr).data)).2)) rfl rfl (run_mv rfl rfl) ?_
    simp only [nz1, nz2, nz3]
    refine lvw 52 (.bool (decide (¬ (put_m (Dk.mk l30 l34 x38 x39) ((l.getD x29 dWr).at_) ((l.getD x29 dWr).data)).2 = 0))) rfl rfl (z_neq ((put_m (Dk.mk l30 l34 x38 x39) ((l.getD x29 dWr).at_) ((l.getD x29 dWr).data)).2) 0 rfl rfl rfl) ?_
    simp only [nz1, nz2, nz3]
    refine wpList_nil ?_
    refine then_n (hK122 _ _ ?_)
    refine cond_d (¬ (put_m (Dk.mk l30 l34 x38 x39) ((l.getD x29 dWr).at_) ((l.getD x29 dWr).data)).2 = 0) rfl (fun hc123 => ?_) (fun hc123 => ?_)
    · refine wp_exit ?_
      refine then_x ?_
      refine blk_x ?_
      refine then_n (hK67 _ _ ?_)
      refine wp_region_lit ?_
      refine lvw 34 (.int .i64 ((x29 : Nat) : Int)) rfl rfl (run_mv rfl rfl) ?_
      simp only [nz1, nz2, nz3]
      refine lvw 35 (.int .i64 (((x29 + 1) : Nat) : Int)) rfl rfl (r_add x29 1 (show (x29 + 1) < 9223372036854775808 from by omega) rfl rfl rfl) ?_
      simp only [nz1, nz2, nz3]
      refine lvw 5 (.int .i64 (((x29 + 1) : Nat) : Int)) rfl rfl (run_as rfl rfl) ?_
      simp only [nz1, nz2, nz3]
      refine wpList_nil ?_
      obtain ⟨F124, hm125⟩ : ∃ F124, Mm none (fun _ => True) w w115 [.see (DkR d dv0 dv1) Fd, .see (Rs eWr 2 l lv0) Fl, .blk g4 #[v31, v35, .int .i64 (x38), .bool (x39)] 25, .see (Rs eS 1 l30 v31) F32, .see (Rs eWr 2 l34 v35) F36, .see (DkR ((put_m (Dk.mk l30 l34 x38 x39) ((l.getD x29 dWr).at_) ((l.getD x29 dWr).data)).1) v73 v74) F76, .blk g88 #[v73, v74, .int .i64 (((put_m (Dk.mk l30 l34 x38 x39) ((l.getD x29 dWr).at_) ((l.getD x29 dWr).data)).1).fuse), .bool (((put_m (Dk.mk l30 l34 x38 x39) ((l.getD x29 dWr).at_) ((l.getD x29 dWr).data)).1).down)] 25, .see (Rs eS 1 l30 v31) F124] := hm116.derive (hm116.from 3 rfl)
      obtain ⟨F127, hm128⟩ : ∃ F127, Mm none (fun _ => True) w w115 [.see (DkR d dv0 dv1) Fd, .see (Rs eWr 2 l lv0) Fl, .blk g4 #[v31, v35, .int .i64 (x38), .bool (x39)] 25, .see (Rs eS 1 l30 v31) F32, .see (Rs eWr 2 l34 v35) F36, .see (DkR ((put_m (Dk.mk l30 l34 x38 x39) ((l.getD x29 dWr).at_) ((l.getD x29 dWr).data)).1) v73 v74) F76, .blk g88 #[v73, v74, .int .i64 (((put_m (Dk.mk l30 l34 x38 x39) ((l.getD x29 dWr).at_) ((l.getD x29 dWr).data)).1).fuse), .bool (((put_m (Dk.mk l30 l34 x38 x39) ((l.getD x29 dWr).at_) ((l.getD x29 dWr).data)).1).down)] 25, .see (Rs eS 1 l30 v31) F124, .see (Rs eWr 2 l34 v35) F127] := hm125.derive (hm125.from 4 rfl)
      refine then_n (hR61 _ _ _ ⟨k47, (x29 + 1), l30, l34, x38, x39, v31, F124, v35, F127, (fun qq => bif Nat.blt qq 24 then List.getD [u0 0, .pointer (some ⟨g88, 0, none⟩), .int .i64 ((put_m (Dk.mk l30 l34 x38 x39) ((l.getD x29 dWr).at_) ((l.getD x29 dWr).data)).2), u0 3, u0 4, u0 5, u0 6, u0 7, u0 8, u0 9, u0 10, .int .i64 ((x29 : Nat) : Int), lv0, .int .i64 ((l.length : Nat) : Int), .bool (decide (x29 < l.length)), .int .i64 ((x29 : Nat) : Int), .int .i64 (((x29 + 1) : Nat) : Int), .tuple #[.agg #[v73, v74, .int .i64 (((put_m (Dk.mk l30 l34 x38 x39) ((l.getD x29 dWr).at_) ((l.getD x29 dWr).data)).1).fuse), .bool (((put_m (Dk.mk l30 l34 x38 x39) ((l.getD x29 dWr).at_) ((l.getD x29 dWr).data)).1).down)], .int .i64 ((put_m (Dk.mk l30 l34 x38 x39) ((l.getD x29 dWr).at_) ((l.getD x29 dWr).data)).2)], .agg #[v31, v35, .int .i64 (x38), .bool (x39)], lv0, .int .i64 ((x29 : Nat) : Int), .pointer (some ⟨(bk lv0), (po lv0 + x29 * 2), none⟩), .pointer (some ⟨(bk lv0), ((po lv0 + x29 * 2) + 0), none⟩), .int .i64 ((l.getD x29 dWr).at_)] qq undef else bif Nat.blt qq 48 then List.getD [lv0, .int .i64 ((x29 : Nat) : Int), .pointer (some ⟨(bk lv0), (po lv0 + x29 * 2), none⟩), .pointer (some ⟨(bk lv0), ((po lv0 + x29 * 2) + 1), none⟩), .string (tx ((l.getD x29 dWr).data)), .tuple #[.agg #[v73, v74, .int .i64 (((put_m (Dk.mk l30 l34 x38 x39) ((l.getD x29 dWr).at_) ((l.getD x29 dWr).data)).1).fuse), .bool (((put_m (Dk.mk l30 l34 x38 x39) ((l.getD x29 dWr).at_) ((l.getD x29 dWr).data)).1).down)], .int .i64 ((put_m (Dk.mk l30 l34 x38 x39) ((l.getD x29 dWr).at_) ((l.getD x29 dWr).data)).2)], .agg #[v73, v74, .int .i64 (((put_m (Dk.mk l30 l34 x38 x39) ((l.getD x29 dWr).at_) ((l.getD x29 dWr).data)).1).fuse), .bool (((put_m (Dk.mk l30 l34 x38 x39) ((l.getD x29 dWr).at_) ((l.getD x29 dWr).data)).1).down)], .int .i64 ((put_m (Dk.mk l30 l34 x38 x39) ((l.getD x29 dWr).at_) ((l.getD x29 dWr).data)).2), .int .i64 ((put_m (Dk.mk l30 l34 x38 x39) ((l.getD x29 dWr).at_) ((l.getD x29 dWr).data)).2), .bool (decide (¬ (put_m (Dk.mk l30 l34 x38 x39) ((l.getD x29 dWr).at_) ((l.getD x29 dWr).data)).2 = 0)), u0 34, u0 35, u0 36, u0 37, u0 38, u0 39, u0 40, u0 41, u0 42, u0 43, u0 44, u0 45, u0 46, u0 47] (qq - 24) undef else bif Nat.blt qq 72 then List.getD [u0 48, u0 49, u0 50, u0 51, u0 52, u0 53, u0 54, u0 55, u0 56, u0 57, u0 58, u0 59, u0 60, u0 61, u0 62, u0 63, u0 64, u0 65, u0 66, u0 67, u0 68, u0 69, u0 70, u0 71] (qq - 48) undef else bif Nat.blt qq 96 then List.getD [u0 72, u0 73, u0 74, u0 75, u0 76, u0 77, u0 78, u0 79, u0 80, u0 81, u0 82, u0 83, u0 84, u0 85, u0 86, u0 87, u0 88, u0 89, u0 90, u0 91, u0 92, u0 93, u0 94, u0 95] (qq - 72) undef else List.getD [u0 96, u0 97, u0 98, u0 99, u0 100, u0 101, u0 102, u0 103, u0 104, u0 105, u0 106, u0 107, u0 108, u0 109, u0 110, u0 111, u0 112, u0 113, u0 114, u0 115, u0 116, u0 117] (qq - 96) undef), rfl, (by first | omega | (simp; omega) | (simp at *; omega)), (hi48.trans (show last_m_b0 d l (last_m_l0 d l k47) x29 l30 l34 x38 x39 = last_m_l0 d l k47 ((x29 + 1), l30, l34, x38, x39) from by unfold last_m_b0; rw [if_pos hc66, if_pos hc123] <;> rfl)), (by first | omega | (simp; done) | (simp; omega) | (simp at *; omega)), (by first | omega | (simp; done) | (simp; omega) | (simp at *; omega)), (by first | omega | (simp; done) | (simp; omega) | (simp at *; omega)), rfl, (Mm.reorder hm128 [0, 1, 2, 7, 8] (by decide) rfl)⟩ ?_)
      omega
    refine wp_skip ?_
    refine then_n (hK121 _ _ ?_)
    refine wp_seq_k (fun K130 hK130 => ?_)
    have hm131 := hm116.drew
    refine wp_region_held_drew (S := fun w' => Mem.Blk w' g88 (#[v73, v74, .int .i64 (((put_m (Dk.mk l30 l34 x38 x39) ((l.getD x29 dWr).at_) ((l.getD x29 dWr).data)).1).fuse), .bool (((put_m (Dk.mk l30 l34 x38 x39) ((l.getD x29 dWr).at_) ((l.getD x29 dWr).data)).1).down)]) 25 ∧ Rs eWr 2 l lv0 w') (by kernel_rfl) (⟨hm131.at 6 rfl, ((hm131.see 1 rfl))⟩) (fun _ => ?_)
    generalize w115.drew = w132 at *
    refine tk 0 54 (.agg #[v73, v74, .int .i64 (((put_m (Dk.mk l30 l34 x38 x39) ((l.getD x29 dWr).at_) ((l.getD x29 dWr).data)).1).fuse), .bool (((put_m (Dk.mk l30 l34 x38 x39) ((l.getD x29 dWr).at_) ((l.getD x29 dWr).data)).1).down)]) rfl rfl (fun _ hw => r_whole hw.1 Try.underlying25 rfl (by exact sz_25) rfl rfl) (⟨hm131.at 6 rfl, ((hm131.see 1 rfl))⟩) ?_
    simp only [nz1, nz2, nz3]
    refine tk 1 55 (lv0) rfl rfl (fun _ hw => run_mv rfl rfl) (⟨hm131.at 6 rfl, ((hm131.see 1 rfl))⟩) ?_
    simp only [nz1, nz2, nz3]
    refine tk 2 56 (.int .i64 ((x29 : Nat) : Int)) rfl rfl (fun _ hw => run_mv rfl rfl) (⟨hm131.at 6 rfl, ((hm131.see 1 rfl))⟩) ?_
    simp only [nz1, nz2, nz3]
    refine tk 3 57 (.pointer (some ⟨(bk lv0), (po lv0 + x29 * 2), none⟩)) rfl rfl (fun _ hw => r_ixv ((hm131.see 1 rfl)) x29 (by omega) Try.underlying23 sz_42 rfl rfl rfl) (⟨hm131.at 6 rfl, ((hm131.see 1 rfl))⟩) ?_
    simp only [nz1, nz2, nz3]
    refine tk 4 58 (.pointer (some ⟨(bk lv0), ((po lv0 + x29 * 2) + 0), none⟩)) rfl rfl (fun _ hw => r_fa42_0 (bk lv0) (po lv0 + x29 * 2) rfl rfl) (⟨hm131.at 6 rfl, ((hm131.see 1 rfl))⟩) ?_
    simp only [nz1, nz2, nz3]
    refine tk 5 59 (.int .i64 ((l.getD x29 dWr).at_)) rfl rfl (fun _ hw => r_cellw (Rs.cell hw.2 eWr_len dWr x29 (by omega) 0 _ rfl) Try.underlying3 rfl rfl rfl) (⟨hm131.at 6 rfl, ((hm131.see 1 rfl))⟩) ?_
    simp only [nz1, nz2, nz3]
    refine one_ready 6 (by kernel_rfl) ?_
    refine opd rfl (wanted_none rfl) (m_call hm131 60 (.tuple #[.string (tx ((get_m ((put_m (Dk.mk l30 l34 x38 x39) ((l.getD x29 dWr).at_) ((l.getD x29 dWr).data)).1) ((l.getD x29 dWr).at_)).1)), .int .i64 ((get_m ((put_m (Dk.mk l30 l34 x38 x39) ((l.getD x29 dWr).at_) ((l.getD x29 dWr).data)).1) ((l.getD x29 dWr).at_)).2)]) rfl (run_get rfl rfl rfl) (get_any ((put_m (Dk.mk l30 l34 x38 x39) ((l.getD x29 dWr).at_) ((l.getD x29 dWr).data)).1) ((l.getD x29 dWr).at_) v73 v74 _ (hm131.see 5 rfl) (by first | omega | assumption | decide | (simp; done) | (simp; omega)) (by first | omega | assumption | decide | (simp; done) | (simp; omega))) (fun w133 (hm134 : Mm none (fun _ => True) w w133 [.see (DkR d dv0 dv1) Fd, .see (Rs eWr 2 l lv0) Fl, .blk g4 #[v31, v35, .int .i64 (x38), .bool (x39)] 25, .see (Rs eS 1 l30 v31) F32, .see (Rs eWr 2 l34 v35) F36, .see (DkR ((put_m (Dk.mk l30 l34 x38 x39) ((l.getD x29 dWr).at_) ((l.getD x29 dWr).data)).1) v73 v74) F76, .blk g88 #[v73, v74, .int .i64 (((put_m (Dk.mk l30 l34 x38 x39) ((l.getD x29 dWr).at_) ((l.getD x29 dWr).data)).1).fuse), .bool (((put_m (Dk.mk l30 l34 x38 x39) ((l.getD x29 dWr).at_) ((l.getD x29 dWr).data)).1).down)] 25]) => ?_))
    refine ⟨⟨hm134.at 6 rfl, ((hm134.see 1 rfl))⟩, ?_⟩
    simp only [nz1, nz2, nz3]
    refine tk 7 53 (.tuple #[.string (tx ((get_m ((put_m (Dk.mk l30 l34 x38 x39) ((l.getD x29 dWr).at_) ((l.getD x29 dWr).data)).1) ((l.getD x29 dWr).at_)).1)), .int .i64 ((get_m ((put_m (Dk.mk l30 l34 x38 x39) ((l.getD x29 dWr).at_) ((l.getD x29 dWr).data)).1) ((l.getD x29 dWr).at_)).2)]) rfl rfl (fun _ hw => run_mv rfl rfl) (⟨hm134.at 6 rfl, ((hm134.see 1 rfl))⟩) ?_
    simp only [nz1, nz2, nz3]
    refine tk 8 61 (.string (tx ((get_m ((put_m (Dk.mk l30 l34 x38 x39) ((l.getD x29 dWr).at_) ((l.getD x29 dWr).data)).1) ((l.getD x29 dWr).at_)).1))) rfl rfl (fun _ hw => run_ex rfl rfl rfl) (⟨hm134.at 6 rfl, ((hm134.see 1 rfl))⟩) ?_
    simp only [nz1, nz2, nz3]
    refine tk 9 62 (.int .i64 ((get_m ((put_m (Dk.mk l30 l34 x38 x39) ((l.getD x29 dWr).at_) ((l.getD x29 dWr).data)).1) ((l.getD x29 dWr).at_)).2)) rfl rfl (fun _ hw => run_ex rfl rfl rfl) (⟨hm134.at 6 rfl, ((hm134.see 1 rfl))⟩) ?_
    simp only [nz1, nz2, nz3]
    refine one_ready 10 (by kernel_rfl) ?_
    refine opd rfl (wanted_none rfl) (w_value 8 (.string (tx ((get_m ((put_m (Dk.mk l30 l34 x38 x39) ((l.getD x29 dWr).at_) ((l.getD x29 dWr).data)).1) ((l.getD x29 dWr).at_)).1))) rfl (run_as rfl rfl) ⟨⟨hm134.at 6 rfl, ((hm134.see 1 rfl))⟩, ?_⟩)
    simp only [nz1, nz2, nz3]
    refine one_ready 11 (by kernel_rfl) ?_
    refine opd rfl (wanted_none rfl) (w_value 9 (.int .i64 ((get_m ((put_m (Dk.mk l30 l34 x38 x39) ((l.getD x29 dWr).at_) ((l.getD x29 dWr).data)).1) ((l.getD x29 dWr).at_)).2)) rfl (run_as rfl rfl) ⟨⟨hm134.at 6 rfl, ((hm134.see 1 rfl))⟩, ?_⟩)
    simp only [nz1, nz2, nz3]
    refine wpAnyH_done (by kernel_rfl) ?_ _
    refine then_n (hK130 _ _ ?_)
    refine wp_seq_k (fun K135 hK135 => ?_)
    refine wp_region_lit ?_
    refine lvw 64 (.agg #[v73, v74, .int .i64 (((put_m (Dk.mk l30 l34 x38 x39) ((l.getD x29 dWr).at_) ((l.getD x29 dWr).data)).1).fuse), .bool (((put_m (Dk.mk l30 l34 x38 x39) ((l.getD x29 dWr).at_) ((l.getD x29 dWr).data)).1).down)]) rfl rfl (r_whole (hm134.at 6 rfl) Try.underlying25 rfl (by exact sz_25) rfl rfl) ?_
    simp only [nz1, nz2, nz3]
    refine lst rfl (m_callx hm134 65 rfl (run_flush rfl rfl) (flush_any ((put_m (Dk.mk l30 l34 x38 x39) ((l.getD x29 dWr).at_) ((l.getD x29 dWr).data)).1) v73 v74 (seeS _) _ (hm134.from 5 rfl) (by first | omega | assumption | decide | (simp; done) | (simp; omega)) (by first | omega | assumption | decide | (simp; done) | (simp; omega)) (by first | omega | assumption | decide | (simp; done) | (simp; omega))) (fun vv142 w136 hR143 hb144 hm137 => ?_))
    obtain ⟨v138, v139, rfl, hg145⟩ := hR143
    obtain ⟨F141, hm146⟩ : ∃ F141, Mm none (fun _ => True) w w136 [.see (DkR d dv0 dv1) Fd, .see (Rs eWr 2 l lv0) Fl, .blk g4 #[v31, v35, .int .i64 (x38), .bool (x39)] 25, .see (Rs eS 1 l30 v31) F32, .see (Rs eWr 2 l34 v35) F36, .see (DkR ((put_m (Dk.mk l30 l34 x38 x39) ((l.getD x29 dWr).at_) ((l.getD x29 dWr).data)).1) v73 v74) F76, .blk g88 #[v73, v74, .int .i64 (((put_m (Dk.mk l30 l34 x38 x39) ((l.getD x29 dWr).at_) ((l.getD x29 dWr).data)).1).fuse), .bool (((put_m (Dk.mk l30 l34 x38 x39) ((l.getD x29 dWr).at_) ((l.getD x29 dWr).data)).1).down)] 25, .see (DkR ((flush_m ((put_m (Dk.mk l30 l34 x38 x39) ((l.getD x29 dWr).at_) ((l.getD x29 dWr).data)).1)).1) v138 v139) F141] := Mm.tookS hm134 hb144 hg145
    clear hm137 hg145 hb144
    have hf147 : (flush_m ((put_m (Dk.mk l30 l34 x38 x39) ((l.getD x29 dWr).at_) ((l.getD x29 dWr).data)).1)).1.safe.length = ((put_m (Dk.mk l30 l34 x38 x39) ((l.getD x29 dWr).at_) ((l.getD x29 dWr).data)).1).safe.length := (flush_near ((put_m (Dk.mk l30 l34 x38 x39) ((l.getD x29 dWr).at_) ((l.getD x29 dWr).data)).1)).1
    have hf148 : (flush_m ((put_m (Dk.mk l30 l34 x38 x39) ((l.getD x29 dWr).at_) ((l.getD x29 dWr).data)).1)).1.loose.length ≤ ((put_m (Dk.mk l30 l34 x38 x39) ((l.getD x29 dWr).at_) ((l.getD x29 dWr).data)).1).loose.length + 0 := (flush_near ((put_m (Dk.mk l30 l34 x38 x39) ((l.getD x29 dWr).at_) ((l.getD x29 dWr).data)).1)).2.1
    have hf149 : (flush_m ((put_m (Dk.mk l30 l34 x38 x39) ((l.getD x29 dWr).at_) ((l.getD x29 dWr).data)).1)).1.fuse ≤ 9223372036854775807 := (flush_near ((put_m (Dk.mk l30 l34 x38 x39) ((l.getD x29 dWr).at_) ((l.getD x29 dWr).data)).1)).2.2 (show ((put_m (Dk.mk l30 l34 x38 x39) ((l.getD x29 dWr).at_) ((l.getD x29 dWr).data)).1).fuse ≤ 9223372036854775807 from (by first | omega | (simp; done) | (simp; omega)))
    simp only [nz1, nz2, nz3]
    refine lvw 63 (.tuple #[.agg #[v138, v139, .int .i64 (((flush_m ((put_m (Dk.mk l30 l34 x38 x39) ((l.getD x29 dWr).at_) ((l.getD x29 dWr).data)).1)).1).fuse), .bool (((flush_m ((put_m (Dk.mk l30 l34 x38 x39) ((l.getD x29 dWr).at_) ((l.getD x29 dWr).data)).1)).1).down)], .int .i64 ((flush_m ((put_m (Dk.mk l30 l34 x38 x39) ((l.getD x29 dWr).at_) ((l.getD x29 dWr).data)).1)).2)]) rfl rfl (run_mv rfl rfl) ?_
    simp only [nz1, nz2, nz3]
    refine lvw 66 (.agg #[v138, v139, .int .i64 (((flush_m ((put_m (Dk.mk l30 l34 x38 x39) ((l.getD x29 dWr).at_) ((l.getD x29 dWr).data)).1)).1).fuse), .bool (((flush_m ((put_m (Dk.mk l30 l34 x38 x39) ((l.getD x29 dWr).at_) ((l.getD x29 dWr).data)).1)).1).down)]) rfl rfl (run_ex rfl rfl rfl) ?_
    simp only [nz1, nz2, nz3]
    refine lvw 67 (.int .i64 ((flush_m ((put_m (Dk.mk l30 l34 x38 x39) ((l.getD x29 dWr).at_) ((l.getD x29 dWr).data)).1)).2)) rfl rfl (run_ex rfl rfl rfl) ?_
    simp only [nz1, nz2, nz3]
    refine lst rfl (m_alloc (c := #[.slice none 0 0, .slice none 0 0, .int .i64 0, .bool false]) (T := 25) hm146 10 rfl (by unfold execOp; go_simp; try rfl) (fun g152 w150 (hm151 : Mm none (fun _ => True) w w150 [.see (DkR d dv0 dv1) Fd, .see (Rs eWr 2 l lv0) Fl, .blk g4 #[v31, v35, .int .i64 (x38), .bool (x39)] 25, .see (Rs eS 1 l30 v31) F32, .see (Rs eWr 2 l34 v35) F36, .see (DkR ((put_m (Dk.mk l30 l34 x38 x39) ((l.getD x29 dWr).at_) ((l.getD x29 dWr).data)).1) v73 v74) F76, .blk g88 #[v73, v74, .int .i64 (((put_m (Dk.mk l30 l34 x38 x39) ((l.getD x29 dWr).at_) ((l.getD x29 dWr).data)).1).fuse), .bool (((put_m (Dk.mk l30 l34 x38 x39) ((l.getD x29 dWr).at_) ((l.getD x29 dWr).data)).1).down)] 25, .see (DkR ((flush_m ((put_m (Dk.mk l30 l34 x38 x39) ((l.getD x29 dWr).at_) ((l.getD x29 dWr).data)).1)).1) v138 v139) F141, .blk g152 #[.slice none 0 0, .slice none 0 0, .int .i64 0, .bool false] 25]) => ?_))
    simp only [nz1, nz2, nz3]
    have ho155 := (rd_one ((hm151.see 7 rfl).1))
    have ho156 := (rd_one ((hm151.see 7 rfl).2))
    refine lst rfl (m_store 8 25 _ _ 0 (.agg #[v138, v139, .int .i64 (((flush_m ((put_m (Dk.mk l30 l34 x38 x39) ((l.getD x29 dWr).at_) ((l.getD x29 dWr).data)).1)).1).fuse), .bool (((flush_m ((put_m (Dk.mk l30 l34 x38 x39) ((l.getD x29 dWr).at_) ((l.getD x29 dWr).data)).1)).1).down)]) (old := #[.slice none 0 0, .slice none 0 0, .int .i64 0, .bool false]) (new := #[v138, v139, .int .i64 (((flush_m ((put_m (Dk.mk l30 l34 x38 x39) ((l.getD x29 dWr).at_) ((l.getD x29 dWr).data)).1)).1).fuse), .bool (((flush_m ((put_m (Dk.mk l30 l34 x38 x39) ((l.getD x29 dWr).at_) ((l.getD x29 dWr).data)).1)).1).down)]) hm151 rfl rfl rfl rfl rfl (by exact sz_25) (show 0 + 4 ≤ 4 from by decide) (by rw [Array.all_eq_true_iff_forall_mem]; intro x hx; simp only [Value.cells, List.mem_toArray, List.mem_cons, List.not_mem_nil, or_false] at hx; rcases hx with rfl | rfl | rfl | rfl <;> first | rfl | assumption) rfl (fun w153 (hm154 : Mm none (fun _ => True) w w153 [.see (DkR d dv0 dv1) Fd, .see (Rs eWr 2 l lv0) Fl, .blk g4 #[v31, v35, .int .i64 (x38), .bool (x39)] 25, .see (Rs eS 1 l30 v31) F32, .see (Rs eWr 2 l34 v35) F36, .see (DkR ((put_m (Dk.mk l30 l34 x38 x39) ((l.getD x29 dWr).at_) ((l.getD x29 dWr).data)).1) v73 v74) F76, .blk g88 #[v73, v74, .int .i64 (((put_m (Dk.mk l30 l34 x38 x39) ((l.getD x29 dWr).at_) ((l.getD x29 dWr).data)).1).fuse), .bool (((put_m (Dk.mk l30 l34 x38 x39) ((l.getD x29 dWr).at_) ((l.getD x29 dWr).data)).1).down)] 25, .see (DkR ((flush_m ((put_m (Dk.mk l30 l34 x38 x39) ((l.getD x29 dWr).at_) ((l.getD x29 dWr).data)).1)).1) v138 v139) F141, .blk g152 #[v138, v139, .int .i64 (((flush_m ((put_m (Dk.mk l30 l34 x38 x39) ((l.getD x29 dWr).at_) ((l.getD x29 dWr).data)).1)).1).fuse), .bool (((flush_m ((put_m (Dk.mk l30 l34 x38 x39) ((l.getD x29 dWr).at_) ((l.getD x29 dWr).data)).1)).1).down)] 25]) => ?_))
    refine lvw 11 (.int .i64 ((flush_m ((put_m (Dk.mk l30 l34 x38 x39) ((l.getD x29 dWr).at_) ((l.getD x29 dWr).data)).1)).2)) rfl rfl (run_as rfl rfl) ?_
    simp only [nz1, nz2, nz3]
    refine wpList_nil ?_
    refine then_n (hK135 _ _ ?_)
    refine wp_seq_k (fun K157 hK157 => ?_)
    have hm158 := hm154.drew
    refine wp_region_held_drew (S := fun w' => Mem.Blk w' g152 (#[v138, v139, .int .i64 (((flush_m ((put_m (Dk.mk l30 l34 x38 x39) ((l.getD x29 dWr).at_) ((l.getD x29 dWr).data)).1)).1).fuse), .bool (((flush_m ((put_m (Dk.mk l30 l34 x38 x39) ((l.getD x29 dWr).at_) ((l.getD x29 dWr).data)).1)).1).down)]) 25 ∧ Rs eWr 2 l lv0 w') (by kernel_rfl) (⟨hm158.at 8 rfl, ((hm158.see 1 rfl))⟩) (fun _ => ?_)
    generalize w153.drew = w159 at *
    refine tk 0 69 (.agg #[v138, v139, .int .i64 (((flush_m ((put_m (Dk.mk l30 l34 x38 x39) ((l.getD x29 dWr).at_) ((l.getD x29 dWr).data)).1)).1).fuse), .bool (((flush_m ((put_m (Dk.mk l30 l34 x38 x39) ((l.getD x29 dWr).at_) ((l.getD x29 dWr).data)).1)).1).down)]) rfl rfl (fun _ hw => r_whole hw.1 Try.underlying25 rfl (by exact sz_25) rfl rfl) (⟨hm158.at 8 rfl, ((hm158.see 1 rfl))⟩) ?_
    simp only [nz1, nz2, nz3]
    refine tk 1 70 (lv0) rfl rfl (fun _ hw => run_mv rfl rfl) (⟨hm158.at 8 rfl, ((hm158.see 1 rfl))⟩) ?_
    simp only [nz1, nz2, nz3]
    refine tk 2 71 (.int .i64 ((x29 : Nat) : Int)) rfl rfl (fun _ hw => run_mv rfl rfl) (⟨hm158.at 8 rfl, ((hm158.see 1 rfl))⟩) ?_
    simp only [nz1, nz2, nz3]
    refine tk 3 72 (.pointer (some ⟨(bk lv0), (po lv0 + x29 * 2), none⟩)) rfl rfl (fun _ hw => r_ixv ((hm158.see 1 rfl)) x29 (by omega) Try.underlying23 sz_42 rfl rfl rfl) (⟨hm158.at 8 rfl, ((hm158.see 1 rfl))⟩) ?_
    simp only [nz1, nz2, nz3]
    refine tk 4 73 (.pointer (some ⟨(bk lv0), ((po lv0 + x29 * 2) + 0), none⟩)) rfl rfl (fun _ hw => r_fa42_0 (bk lv0) (po lv0 + x29 * 2) rfl rfl) (⟨hm158.at 8 rfl, ((hm158.see 1 rfl))⟩) ?_
    simp only [nz1, nz2, nz3]
    refine tk 5 74 (.int .i64 ((l.getD x29 dWr).at_)) rfl rfl (fun _ hw => r_cellw (Rs.cell hw.2 eWr_len dWr x29 (by omega) 0 _ rfl) Try.underlying3 rfl rfl rfl) (⟨hm158.at 8 rfl, ((hm158.see 1 rfl))⟩) ?_
    simp only [nz1, nz2, nz3]
    refine one_ready 6 (by kernel_rfl) ?_
    refine opd rfl (wanted_none rfl) (m_call hm158 75 (.tuple #[.string (tx ((get_m ((flush_m ((put_m (Dk.mk l30 l34 x38 x39) ((l.getD x29 dWr).at_) ((l.getD x29 dWr).data)).1)).1) ((l.getD x29 dWr).at_)).1)), .int .i64 ((get_m ((flush_m ((put_m (Dk.mk l30 l34 x38 x39) ((l.getD x29 dWr).at_) ((l.getD x29 dWr).data)).1)).1) ((l.getD x29 dWr).at_)).2)]) rfl (run_get rfl rfl rfl) (get_any ((flush_m ((put_m (Dk.mk l30 l34 x38 x39) ((l.getD x29 dWr).at_) ((l.getD x29 dWr).data)).1)).1) ((l.getD x29 dWr).at_) v138 v139 _ (hm158.see 7 rfl) (by first | omega | assumption | decide | (simp; done) | (simp; omega)) (by first | omega | assumption | decide | (simp; done) | (simp; omega))) (fun w160 (hm161 : Mm none (fun _ => True) w w160 [.see (DkR d dv0 dv1) Fd, .see (Rs eWr 2 l lv0) Fl, .blk g4 #[v31, v35, .int .i64 (x38), .bool (x39)] 25, .see (Rs eS 1 l30 v31) F32, .see (Rs eWr 2 l34 v35) F36, .see (DkR ((put_m (Dk.mk l30 l34 x38 x39) ((l.getD x29 dWr).at_) ((l.getD x29 dWr).data)).1) v73 v74) F76, .blk g88 #[v73, v74, .int .i64 (((put_m (Dk.mk l30 l34 x38 x39) ((l.getD x29 dWr).at_) ((l.getD x29 dWr).data)).1).fuse), .bool (((put_m (Dk.mk l30 l34 x38 x39) ((l.getD x29 dWr).at_) ((l.getD x29 dWr).data)).1).down)] 25, .see (DkR ((flush_m ((put_m (Dk.mk l30 l34 x38 x39) ((l.getD x29 dWr).at_) ((l.getD x29 dWr).data)).1)).1) v138 v139) F141, .blk g152 #[v138, v139, .int .i64 (((flush_m ((put_m (Dk.mk l30 l34 x38 x39) ((l.getD x29 dWr).at_) ((l.getD x29 dWr).data)).1)).1).fuse), .bool (((flush_m ((put_m (Dk.mk l30 l34 x38 x39) ((l.getD x29 dWr).at_) ((l.getD x29 dWr).data)).1)).1).down)] 25]) => ?_))
    refine ⟨⟨hm161.at 8 rfl, ((hm161.see 1 rfl))⟩, ?_⟩
    simp only [nz1, nz2, nz3]
    refine tk 7 68 (.tuple #[.string (tx ((get_m ((flush_m ((put_m (Dk.mk l30 l34 x38 x39) ((l.getD x29 dWr).at_) ((l.getD x29 dWr).data)).1)).1) ((l.getD x29 dWr).at_)).1)), .int .i64 ((get_m ((flush_m ((put_m (Dk.mk l30 l34 x38 x39) ((l.getD x29 dWr).at_) ((l.getD x29 dWr).data)).1)).1) ((l.getD x29 dWr).at_)).2)]) rfl rfl (fun _ hw => run_mv rfl rfl) (⟨hm161.at 8 rfl, ((hm161.see 1 rfl))⟩) ?_
    simp only [nz1, nz2, nz3]
    refine tk 8 76 (.string (tx ((get_m ((flush_m ((put_m (Dk.mk l30 l34 x38 x39) ((l.getD x29 dWr).at_) ((l.getD x29 dWr).data)).1)).1) ((l.getD x29 dWr).at_)).1))) rfl rfl (fun _ hw => run_ex rfl rfl rfl) (⟨hm161.at 8 rfl, ((hm161.see 1 rfl))⟩) ?_
    simp only [nz1, nz2, nz3]
    refine tk 9 77 (.int .i64 ((get_m ((flush_m ((put_m (Dk.mk l30 l34 x38 x39) ((l.getD x29 dWr).at_) ((l.getD x29 dWr).data)).1)).1) ((l.getD x29 dWr).at_)).2)) rfl rfl (fun _ hw => run_ex rfl rfl rfl) (⟨hm161.at 8 rfl, ((hm161.see 1 rfl))⟩) ?_
    simp only [nz1, nz2, nz3]
    refine one_ready 10 (by kernel_rfl) ?_
    refine opd rfl (wanted_none rfl) (w_value 12 (.string (tx ((get_m ((flush_m ((put_m (Dk.mk l30 l34 x38 x39) ((l.getD x29 dWr).at_) ((l.getD x29 dWr).data)).1)).1) ((l.getD x29 dWr).at_)).1))) rfl (run_as rfl rfl) ⟨⟨hm161.at 8 rfl, ((hm161.see 1 rfl))⟩, ?_⟩)
    simp only [nz1, nz2, nz3]
    refine one_ready 11 (by kernel_rfl) ?_
    refine opd rfl (wanted_none rfl) (w_value 13 (.int .i64 ((get_m ((flush_m ((put_m (Dk.mk l30 l34 x38 x39) ((l.getD x29 dWr).at_) ((l.getD x29 dWr).data)).1)).1) ((l.getD x29 dWr).at_)).2)) rfl (run_as rfl rfl) ⟨⟨hm161.at 8 rfl, ((hm161.see 1 rfl))⟩, ?_⟩)
    simp only [nz1, nz2, nz3]
    refine wpAnyH_done (by kernel_rfl) ?_ _
    refine then_n (hK157 _ _ ?_)
    refine wp_seq_k (fun K162 hK162 => ?_)
    refine wp_region_lit ?_
    refine lvw 79 (.agg #[v73, v74, .int .i64 (((put_m (Dk.mk l30 l34 x38 x39) ((l.getD x29 dWr).at_) ((l.getD x29 dWr).data)).1).fuse), .bool (((put_m (Dk.mk l30 l34 x38 x39) ((l.getD x29 dWr).at_) ((l.getD x29 dWr).data)).1).down)]) rfl rfl (r_whole (hm161.at 6 rfl) Try.underlying25 rfl (by exact sz_25) rfl rfl) ?_
    simp only [nz1, nz2, nz3]
    refine lst rfl (m_callx hm161 80 rfl (run_crash rfl rfl rfl rfl) (crash_any ((put_m (Dk.mk l30 l34 x38 x39) ((l.getD x29 dWr).at_) ((l.getD x29 dWr).data)).1) ([] : List UInt8) (-1) v73 v74 (.slice none 0 0) (seeS _) _ (hm161.from 5 rfl) (From.pure (fun W => Rs.nil eB 1 W)) (by first | omega | assumption | decide | (simp; done) | (simp; omega)) (by first | omega | assumption | decide | (simp; done) | (simp; omega)) (by first | omega | assumption | decide | (simp; done) | (simp; omega))) (fun vv169 w163 hR170 hb171 hm164 => ?_))
    obtain ⟨v165, v166, rfl, hg172⟩ := hR170
    obtain ⟨F168, hm173⟩ : ∃ F168, Mm none (fun _ => True) w w163 [.see (DkR d dv0 dv1) Fd, .see (Rs eWr 2 l lv0) Fl, .blk g4 #[v31, v35, .int .i64 (x38), .bool (x39)] 25, .see (Rs eS 1 l30 v31) F32, .see (Rs eWr 2 l34 v35) F36, .see (DkR ((put_m (Dk.mk l30 l34 x38 x39) ((l.getD x29 dWr).at_) ((l.getD x29 dWr).data)).1) v73 v74) F76, .blk g88 #[v73, v74, .int .i64 (((put_m (Dk.mk l30 l34 x38 x39) ((l.getD x29 dWr).at_) ((l.getD x29 dWr).data)).1).fuse), .bool (((put_m (Dk.mk l30 l34 x38 x39) ((l.getD x29 dWr).at_) ((l.getD x29 dWr).data)).1).down)] 25, .see (DkR ((flush_m ((put_m (Dk.mk l30 l34 x38 x39) ((l.getD x29 dWr).at_) ((l.getD x29 dWr).data)).1)).1) v138 v139) F141, .blk g152 #[v138, v139, .int .i64 (((flush_m ((put_m (Dk.mk l30 l34 x38 x39) ((l.getD x29 dWr).at_) ((l.getD x29 dWr).data)).1)).1).fuse), .bool (((flush_m ((put_m (Dk.mk l30 l34 x38 x39) ((l.getD x29 dWr).at_) ((l.getD x29 dWr).data)).1)).1).down)] 25, .see (DkR ((crash_m ((put_m (Dk.mk l30 l34 x38 x39) ((l.getD x29 dWr).at_) ((l.getD x29 dWr).data)).1) ([] : List UInt8) (-1)).1) v165 v166) F168] := Mm.tookS hm161 hb171 hg172
    clear hm164 hg172 hb171
    have hf174 : (crash_m ((put_m (Dk.mk l30 l34 x38 x39) ((l.getD x29 dWr).at_) ((l.getD x29 dWr).data)).1) ([] : List UInt8) (-1)).1.safe.length = ((put_m (Dk.mk l30 l34 x38 x39) ((l.getD x29 dWr).at_) ((l.getD x29 dWr).data)).1).safe.length := (crash_near ((put_m (Dk.mk l30 l34 x38 x39) ((l.getD x29 dWr).at_) ((l.getD x29 dWr).data)).1) ([] : List UInt8) (-1)).1
    have hf175 : (crash_m ((put_m (Dk.mk l30 l34 x38 x39) ((l.getD x29 dWr).at_) ((l.getD x29 dWr).data)).1) ([] : List UInt8) (-1)).1.loose.length ≤ ((put_m (Dk.mk l30 l34 x38 x39) ((l.getD x29 dWr).at_) ((l.getD x29 dWr).data)).1).loose.length := (crash_near ((put_m (Dk.mk l30 l34 x38 x39) ((l.getD x29 dWr).at_) ((l.getD x29 dWr).data)).1) ([] : List UInt8) (-1)).2
    simp only [nz1, nz2, nz3]
    refine lvw 78 (.tuple #[.agg #[v165, v166, .int .i64 (((crash_m ((put_m (Dk.mk l30 l34 x38 x39) ((l.getD x29 dWr).at_) ((l.getD x29 dWr).data)).1) ([] : List UInt8) (-1)).1).fuse), .bool (((crash_m ((put_m (Dk.mk l30 l34 x38 x39) ((l.getD x29 dWr).at_) ((l.getD x29 dWr).data)).1) ([] : List UInt8) (-1)).1).down)], .int .i64 ((crash_m ((put_m (Dk.mk l30 l34 x38 x39) ((l.getD x29 dWr).at_) ((l.getD x29 dWr).data)).1) ([] : List UInt8) (-1)).2)]) rfl rfl (run_mv rfl rfl) ?_
    simp only [nz1, nz2, nz3]
    refine lvw 81 (.agg #[v165, v166, .int .i64 (((crash_m ((put_m (Dk.mk l30 l34 x38 x39) ((l.getD x29 dWr).at_) ((l.getD x29 dWr).data)).1) ([] : List UInt8) (-1)).1).fuse), .bool (((crash_m ((put_m (Dk.mk l30 l34 x38 x39) ((l.getD x29 dWr).at_) ((l.getD x29 dWr).data)).1) ([] : List UInt8) (-1)).1).down)]) rfl rfl (run_ex rfl rfl rfl) ?_
    simp only [nz1, nz2, nz3]
    refine lvw 82 (.int .i64 ((crash_m ((put_m (Dk.mk l30 l34 x38 x39) ((l.getD x29 dWr).at_) ((l.getD x29 dWr).data)).1) ([] : List UInt8) (-1)).2)) rfl rfl (run_ex rfl rfl rfl) ?_
    simp only [nz1, nz2, nz3]
    refine lst rfl (m_alloc (c := #[.slice none 0 0, .slice none 0 0, .int .i64 0, .bool false]) (T := 25) hm173 14 rfl (by unfold execOp; go_simp; try rfl) (fun g178 w176 (hm177 : Mm none (fun _ => True) w w176 [.see (DkR d dv0 dv1) Fd, .see (Rs eWr 2 l lv0) Fl, .blk g4 #[v31, v35, .int .i64 (x38), .bool (x39)] 25, .see (Rs eS 1 l30 v31) F32, .see (Rs eWr 2 l34 v35) F36, .see (DkR ((put_m (Dk.mk l30 l34 x38 x39) ((l.getD x29 dWr).at_) ((l.getD x29 dWr).data)).1) v73 v74) F76, .blk g88 #[v73, v74, .int .i64 (((put_m (Dk.mk l30 l34 x38 x39) ((l.getD x29 dWr).at_) ((l.getD x29 dWr).data)).1).fuse), .bool (((put_m (Dk.mk l30 l34 x38 x39) ((l.getD x29 dWr).at_) ((l.getD x29 dWr).data)).1).down)] 25, .see (DkR ((flush_m ((put_m (Dk.mk l30 l34 x38 x39) ((l.getD x29 dWr).at_) ((l.getD x29 dWr).data)).1)).1) v138 v139) F141, .blk g152 #[v138, v139, .int .i64 (((flush_m ((put_m (Dk.mk l30 l34 x38 x39) ((l.getD x29 dWr).at_) ((l.getD x29 dWr).data)).1)).1).fuse), .bool (((flush_m ((put_m (Dk.mk l30 l34 x38 x39) ((l.getD x29 dWr).at_) ((l.getD x29 dWr).data)).1)).1).down)] 25, .see (DkR ((crash_m ((put_m (Dk.mk l30 l34 x38 x39) ((l.getD x29 dWr).at_) ((l.getD x29 dWr).data)).1) ([] : List UInt8) (-1)).1) v165 v166) F168, .blk g178 #[.slice none 0 0, .slice none 0 0, .int .i64 0, .bool false] 25]) => ?_))
    simp only [nz1, nz2, nz3]
    have ho181 := (rd_one ((hm177.see 9 rfl).1))
    have ho182 := (rd_one ((hm177.see 9 rfl).2))
    refine lst rfl (m_store 10 25 _ _ 0 (.agg #[v165, v166, .int .i64 (((crash_m ((put_m (Dk.mk l30 l34 x38 x39) ((l.getD x29 dWr).at_) ((l.getD x29 dWr).data)).1) ([] : List UInt8) (-1)).1).fuse), .bool (((crash_m ((put_m (Dk.mk l30 l34 x38 x39) ((l.getD x29 dWr).at_) ((l.getD x29 dWr).data)).1) ([] : List UInt8) (-1)).1).down)]) (old := #[.slice none 0 0, .slice none 0 0, .int .i64 0, .bool false]) (new := #[v165, v166, .int .i64 (((crash_m ((put_m (Dk.mk l30 l34 x38 x39) ((l.getD x29 dWr).at_) ((l.getD x29 dWr).data)).1) ([] : List UInt8) (-1)).1).fuse), .bool (((crash_m ((put_m (Dk.mk l30 l34 x38 x39) ((l.getD x29 dWr).at_) ((l.getD x29 dWr).data)).1) ([] : List UInt8) (-1)).1).down)]) hm177 rfl rfl rfl rfl rfl (by exact sz_25) (show 0 + 4 ≤ 4 from by decide) (by rw [Array.all_eq_true_iff_forall_mem]; intro x hx; simp only [Value.cells, List.mem_toArray, List.mem_cons, List.not_mem_nil, or_false] at hx; rcases hx with rfl | rfl | rfl | rfl <;> first | rfl | assumption) rfl (fun w179 (hm180 : Mm none (fun _ => True) w w179 [.see (DkR d dv0 dv1) Fd, .see (Rs eWr 2 l lv0) Fl, .blk g4 #[v31, v35, .int .i64 (x38), .bool (x39)] 25, .see (Rs eS 1 l30 v31) F32, .see (Rs eWr 2 l34 v35) F36, .see (DkR ((put_m (Dk.mk l30 l34 x38 x39) ((l.getD x29 dWr).at_) ((l.getD x29 dWr).data)).1) v73 v74) F76, .blk g88 #[v73, v74, .int .i64 (((put_m (Dk.mk l30 l34 x38 x39) ((l.getD x29 dWr).at_) ((l.getD x29 dWr).data)).1).fuse), .bool (((put_m (Dk.mk l30 l34 x38 x39) ((l.getD x29 dWr).at_) ((l.getD x29 dWr).data)).1).down)] 25, .see (DkR ((flush_m ((put_m (Dk.mk l30 l34 x38 x39) ((l.getD x29 dWr).at_) ((l.getD x29 dWr).data)).1)).1) v138 v139) F141, .blk g152 #[v138, v139, .int .i64 (((flush_m ((put_m (Dk.mk l30 l34 x38 x39) ((l.getD x29 dWr).at_) ((l.getD x29 dWr).data)).1)).1).fuse), .bool (((flush_m ((put_m (Dk.mk l30 l34 x38 x39) ((l.getD x29 dWr).at_) ((l.getD x29 dWr).data)).1)).1).down)] 25, .see (DkR ((crash_m ((put_m (Dk.mk l30 l34 x38 x39) ((l.getD x29 dWr).at_) ((l.getD x29 dWr).data)).1) ([] : List UInt8) (-1)).1) v165 v166) F168, .blk g178 #[v165, v166, .int .i64 (((crash_m ((put_m (Dk.mk l30 l34 x38 x39) ((l.getD x29 dWr).at_) ((l.getD x29 dWr).data)).1) ([] : List UInt8) (-1)).1).fuse), .bool (((crash_m ((put_m (Dk.mk l30 l34 x38 x39) ((l.getD x29 dWr).at_) ((l.getD x29 dWr).data)).1) ([] : List UInt8) (-1)).1).down)] 25]) => ?_))
    refine lvw 15 (.int .i64 ((crash_m ((put_m (Dk.mk l30 l34 x38 x39) ((l.getD x29 dWr).at_) ((l.getD x29 dWr).data)).1) ([] : List UInt8) (-1)).2)) rfl rfl (run_as rfl rfl) ?_
    simp only [nz1, nz2, nz3]
    refine wpList_nil ?_
    refine then_n (hK162 _ _ ?_)
    refine wp_seq_k (fun K183 hK183 => ?_)
    refine wp_seq_k (fun K184 hK184 => ?_)
    have hm185 := hm180.drew
    refine wp_region_held_drew (S := fun w' => Mem.Blk w' g178 (#[v165, v166, .int .i64 (((crash_m ((put_m (Dk.mk l30 l34 x38 x39) ((l.getD x29 dWr).at_) ((l.getD x29 dWr).data)).1) ([] : List UInt8) (-1)).1).fuse), .bool (((crash_m ((put_m (Dk.mk l30 l34 x38 x39) ((l.getD x29 dWr).at_) ((l.getD x29 dWr).data)).1) ([] : List UInt8) (-1)).1).down)]) 25 ∧ Mem.Blk w' g4 (#[v31, v35, .int .i64 (x38), .bool (x39)]) 25 ∧ Rs eWr 2 l lv0 w' ∧ Rs eS 1 (((crash_m ((put_m (Dk.mk l30 l34 x38 x39) ((l.getD x29 dWr).at_) ((l.getD x29 dWr).data)).1) ([] : List UInt8) (-1)).1).safe) v165 w' ∧ Rs eS 1 l30 v31 w') (by kernel_rfl) (⟨hm185.at 10 rfl, hm185.at 2 rfl, ((hm185.see 1 rfl)), ((hm185.see 9 rfl).1), ((hm185.see 3 rfl))⟩) (fun _ => ?_)
    generalize w179.drew = w186 at *
    refine tk 0 83 (.int .i64 ((get_m ((put_m (Dk.mk l30 l34 x38 x39) ((l.getD x29 dWr).at_) ((l.getD x29 dWr).data)).1) ((l.getD x29 dWr).at_)).2)) rfl rfl (fun _ hw => run_mv rfl rfl) (⟨hm185.at 10 rfl, hm185.at 2 rfl, ((hm185.see 1 rfl)), ((hm185.see 9 rfl).1), ((hm185.see 3 rfl))⟩) ?_
    simp only [nz1, nz2, nz3]
    refine tkb 1 84 (¬ (get_m ((put_m (Dk.mk l30 l34 x38 x39) ((l.getD x29 dWr).at_) ((l.getD x29 dWr).data)).1) ((l.getD x29 dWr).at_)).2 = 0) rfl rfl rfl (fun _ hw => z_neq ((get_m ((put_m (Dk.mk l30 l34 x38 x39) ((l.getD x29 dWr).at_) ((l.getD x29 dWr).data)).1) ((l.getD x29 dWr).at_)).2) 0 rfl rfl rfl) (⟨hm185.at 10 rfl, hm185.at 2 rfl, ((hm185.see 1 rfl)), ((hm185.see 9 rfl).1), ((hm185.see 3 rfl))⟩) (fun hs187 => ?_) (fun hs187 => ?_)
    · simp only [nz1, nz2, nz3]
      refine tk 2 85 (.bool true) rfl rfl (fun _ hw => run_mv rfl rfl) (⟨hm185.at 10 rfl, hm185.at 2 rfl, ((hm185.see 1 rfl)), ((hm185.see 9 rfl).1), ((hm185.see 3 rfl))⟩) ?_
      simp only [nz1, nz2, nz3]
      refine skx 3 86 rfl rfl rfl (⟨hm185.at 10 rfl, hm185.at 2 rfl, ((hm185.see 1 rfl)), ((hm185.see 9 rfl).1), ((hm185.see 3 rfl))⟩) ?_
      simp only [nz1, nz2, nz3]
      refine skx 4 87 rfl rfl rfl (⟨hm185.at 10 rfl, hm185.at 2 rfl, ((hm185.see 1 rfl)), ((hm185.see 9 rfl).1), ((hm185.see 3 rfl))⟩) ?_
      simp only [nz1, nz2, nz3]
      refine tk 5 88 (.bool true) rfl rfl (fun _ hw => run_pick rfl rfl rfl) (⟨hm185.at 10 rfl, hm185.at 2 rfl, ((hm185.see 1 rfl)), ((hm185.see 9 rfl).1), ((hm185.see 3 rfl))⟩) ?_
      simp only [nz1, nz2, nz3]
      refine tk 6 89 (.bool true) rfl rfl (fun _ hw => run_mv rfl rfl) (⟨hm185.at 10 rfl, hm185.at 2 rfl, ((hm185.see 1 rfl)), ((hm185.see 9 rfl).1), ((hm185.see 3 rfl))⟩) ?_
      simp only [nz1, nz2, nz3]
      refine skx 7 90 rfl rfl rfl (⟨hm185.at 10 rfl, hm185.at 2 rfl, ((hm185.see 1 rfl)), ((hm185.see 9 rfl).1), ((hm185.see 3 rfl))⟩) ?_
      simp only [nz1, nz2, nz3]
      refine skx 8 91 rfl rfl rfl (⟨hm185.at 10 rfl, hm185.at 2 rfl, ((hm185.see 1 rfl)), ((hm185.see 9 rfl).1), ((hm185.see 3 rfl))⟩) ?_
      simp only [nz1, nz2, nz3]
      refine tk 9 92 (.bool true) rfl rfl (fun _ hw => run_pick rfl rfl rfl) (⟨hm185.at 10 rfl, hm185.at 2 rfl, ((hm185.see 1 rfl)), ((hm185.see 9 rfl).1), ((hm185.see 3 rfl))⟩) ?_
      simp only [nz1, nz2, nz3]
      refine tk 10 93 (.bool true) rfl rfl (fun _ hw => run_mv rfl rfl) (⟨hm185.at 10 rfl, hm185.at 2 rfl, ((hm185.see 1 rfl)), ((hm185.see 9 rfl).1), ((hm185.see 3 rfl))⟩) ?_
      simp only [nz1, nz2, nz3]
      refine skx 11 94 rfl rfl rfl (⟨hm185.at 10 rfl, hm185.at 2 rfl, ((hm185.see 1 rfl)), ((hm185.see 9 rfl).1), ((hm185.see 3 rfl))⟩) ?_
      simp only [nz1, nz2, nz3]
      refine skx 12 95 rfl rfl rfl (⟨hm185.at 10 rfl, hm185.at 2 rfl, ((hm185.see 1 rfl)), ((hm185.see 9 rfl).1), ((hm185.see 3 rfl))⟩) ?_
      simp only [nz1, nz2, nz3]
      refine tk 13 96 (.bool true) rfl rfl (fun _ hw => run_pick rfl rfl rfl) (⟨hm185.at 10 rfl, hm185.at 2 rfl, ((hm185.see 1 rfl)), ((hm185.see 9 rfl).1), ((hm185.see 3 rfl))⟩) ?_
      simp only [nz1, nz2, nz3]
      refine tk 14 97 (.bool true) rfl rfl (fun _ hw => run_mv rfl rfl) (⟨hm185.at 10 rfl, hm185.at 2 rfl, ((hm185.see 1 rfl)), ((hm185.see 9 rfl).1), ((hm185.see 3 rfl))⟩) ?_
      simp only [nz1, nz2, nz3]
      refine skx 15 98 rfl rfl rfl (⟨hm185.at 10 rfl, hm185.at 2 rfl, ((hm185.see 1 rfl)), ((hm185.see 9 rfl).1), ((hm185.see 3 rfl))⟩) ?_
      simp only [nz1, nz2, nz3]
      refine skx 16 99 rfl rfl rfl (⟨hm185.at 10 rfl, hm185.at 2 rfl, ((hm185.see 1 rfl)), ((hm185.see 9 rfl).1), ((hm185.see 3 rfl))⟩) ?_
      simp only [nz1, nz2, nz3]
      refine skx 17 100 rfl rfl rfl (⟨hm185.at 10 rfl, hm185.at 2 rfl, ((hm185.see 1 rfl)), ((hm185.see 9 rfl).1), ((hm185.see 3 rfl))⟩) ?_
      simp only [nz1, nz2, nz3]
      refine skx 18 101 rfl rfl rfl (⟨hm185.at 10 rfl, hm185.at 2 rfl, ((hm185.see 1 rfl)), ((hm185.see 9 rfl).1), ((hm185.see 3 rfl))⟩) ?_
      simp only [nz1, nz2, nz3]
      refine skx 19 102 rfl rfl rfl (⟨hm185.at 10 rfl, hm185.at 2 rfl, ((hm185.see 1 rfl)), ((hm185.see 9 rfl).1), ((hm185.see 3 rfl))⟩) ?_
      simp only [nz1, nz2, nz3]
      refine skx 20 103 rfl rfl rfl (⟨hm185.at 10 rfl, hm185.at 2 rfl, ((hm185.see 1 rfl)), ((hm185.see 9 rfl).1), ((hm185.see 3 rfl))⟩) ?_
      simp only [nz1, nz2, nz3]
      refine skx 21 104 rfl rfl rfl (⟨hm185.at 10 rfl, hm185.at 2 rfl, ((hm185.see 1 rfl)), ((hm185.see 9 rfl).1), ((hm185.see 3 rfl))⟩) ?_
      simp only [nz1, nz2, nz3]
      refine tk 22 105 (.bool true) rfl rfl (fun _ hw => run_pick rfl rfl rfl) (⟨hm185.at 10 rfl, hm185.at 2 rfl, ((hm185.see 1 rfl)), ((hm185.see 9 rfl).1), ((hm185.see 3 rfl))⟩) ?_
      simp only [nz1, nz2, nz3]
      refine tk 23 106 (.bool true) rfl rfl (fun _ hw => run_mv rfl rfl) (⟨hm185.at 10 rfl, hm185.at 2 rfl, ((hm185.see 1 rfl)), ((hm185.see 9 rfl).1), ((hm185.see 3 rfl))⟩) ?_
      simp only [nz1, nz2, nz3]
      refine skx 24 107 rfl rfl rfl (⟨hm185.at 10 rfl, hm185.at 2 rfl, ((hm185.see 1 rfl)), ((hm185.see 9 rfl).1), ((hm185.see 3 rfl))⟩) ?_
      simp only [nz1, nz2, nz3]
      refine skx 25 108 rfl rfl rfl (⟨hm185.at 10 rfl, hm185.at 2 rfl, ((hm185.see 1 rfl)), ((hm185.see 9 rfl).1), ((hm185.see 3 rfl))⟩) ?_
      simp only [nz1, nz2, nz3]
      refine skx 26 109 rfl rfl rfl (⟨hm185.at 10 rfl, hm185.at 2 rfl, ((hm185.see 1 rfl)), ((hm185.see 9 rfl).1), ((hm185.see 3 rfl))⟩) ?_
      simp only [nz1, nz2, nz3]
      refine skx 27 110 rfl rfl rfl (⟨hm185.at 10 rfl, hm185.at 2 rfl, ((hm185.see 1 rfl)), ((hm185.see 9 rfl).1), ((hm185.see 3 rfl))⟩) ?_
      simp only [nz1, nz2, nz3]
      refine skx 28 111 rfl rfl rfl (⟨hm185.at 10 rfl, hm185.at 2 rfl, ((hm185.see 1 rfl)), ((hm185.see 9 rfl).1), ((hm185.see 3 rfl))⟩) ?_
      simp only [nz1, nz2, nz3]
      refine skx 29 112 rfl rfl rfl (⟨hm185.at 10 rfl, hm185.at 2 rfl, ((hm185.see 1 rfl)), ((hm185.see 9 rfl).1), ((hm185.see 3 rfl))⟩) ?_
      simp only [nz1, nz2, nz3]
      refine skx 30 113 rfl rfl rfl (⟨hm185.at 10 rfl, hm185.at 2 rfl, ((hm185.see 1 rfl)), ((hm185.see 9 rfl).1), ((hm185.see 3 rfl))⟩) ?_
      simp only [nz1, nz2, nz3]
      refine tk 31 114 (.bool true) rfl rfl (fun _ hw => run_pick rfl rfl rfl) (⟨hm185.at 10 rfl, hm185.at 2 rfl, ((hm185.see 1 rfl)), ((hm185.see 9 rfl).1), ((hm185.see 3 rfl))⟩) ?_
      simp only [nz1, nz2, nz3]
      refine tk 32 115 (.bool true) rfl rfl (fun _ hw => run_mv rfl rfl) (⟨hm185.at 10 rfl, hm185.at 2 rfl, ((hm185.see 1 rfl)), ((hm185.see 9 rfl).1), ((hm185.see 3 rfl))⟩) ?_
      simp only [nz1, nz2, nz3]
      refine skx 33 116 rfl rfl rfl (⟨hm185.at 10 rfl, hm185.at 2 rfl, ((hm185.see 1 rfl)), ((hm185.see 9 rfl).1), ((hm185.see 3 rfl))⟩) ?_
      simp only [nz1, nz2, nz3]
      refine skx 34 117 rfl rfl rfl (⟨hm185.at 10 rfl, hm185.at 2 rfl, ((hm185.see 1 rfl)), ((hm185.see 9 rfl).1), ((hm185.see 3 rfl))⟩) ?_
      simp only [nz1, nz2, nz3]
      refine skx 35 118 rfl rfl rfl (⟨hm185.at 10 rfl, hm185.at 2 rfl, ((hm185.see 1 rfl)), ((hm185.see 9 rfl).1), ((hm185.see 3 rfl))⟩) ?_
      simp only [nz1, nz2, nz3]
      refine skx 36 119 rfl rfl rfl (⟨hm185.at 10 rfl, hm185.at 2 rfl, ((hm185.see 1 rfl)), ((hm185.see 9 rfl).1), ((hm185.see 3 rfl))⟩) ?_
      simp only [nz1, nz2, nz3]
      refine skx 37 120 rfl rfl rfl (⟨hm185.at 10 rfl, hm185.at 2 rfl, ((hm185.see 1 rfl)), ((hm185.see 9 rfl).1), ((hm185.see 3 rfl))⟩) ?_
      simp only [nz1, nz2, nz3]
      refine skx 38 121 rfl rfl rfl (⟨hm185.at 10 rfl, hm185.at 2 rfl, ((hm185.see 1 rfl)), ((hm185.see 9 rfl).1), ((hm185.see 3 rfl))⟩) ?_
      simp only [nz1, nz2, nz3]
      refine skx 39 122 rfl rfl rfl (⟨hm185.at 10 rfl, hm185.at 2 rfl, ((hm185.see 1 rfl)), ((hm185.see 9 rfl).1), ((hm185.see 3 rfl))⟩) ?_
      simp only [nz1, nz2, nz3]
      refine skx 40 123 rfl rfl rfl (⟨hm185.at 10 rfl, hm185.at 2 rfl, ((hm185.see 1 rfl)), ((hm185.see 9 rfl).1), ((hm185.see 3 rfl))⟩) ?_
      simp only [nz1, nz2, nz3]
      refine skx 41 124 rfl rfl rfl (⟨hm185.at 10 rfl, hm185.at 2 rfl, ((hm185.see 1 rfl)), ((hm185.see 9 rfl).1), ((hm185.see 3 rfl))⟩) ?_
      simp only [nz1, nz2, nz3]
      refine skx 42 125 rfl rfl rfl (⟨hm185.at 10 rfl, hm185.at 2 rfl, ((hm185.see 1 rfl)), ((hm185.see 9 rfl).1), ((hm185.see 3 rfl))⟩) ?_
      simp only [nz1, nz2, nz3]
      refine skx 43 126 rfl rfl rfl (⟨hm185.at 10 rfl, hm185.at 2 rfl, ((hm185.see 1 rfl)), ((hm185.see 9 rfl).1), ((hm185.see 3 rfl))⟩) ?_
      simp only [nz1, nz2, nz3]
      refine skx 44 127 rfl rfl rfl (⟨hm185.at 10 rfl, hm185.at 2 rfl, ((hm185.see 1 rfl)), ((hm185.see 9 rfl).1), ((hm185.see 3 rfl))⟩) ?_
      simp only [nz1, nz2, nz3]
      refine skx 45 128 rfl rfl rfl (⟨hm185.at 10 rfl, hm185.at 2 rfl, ((hm185.see 1 rfl)), ((hm185.see 9 rfl).1), ((hm185.see 3 rfl))⟩) ?_
      simp only [nz1, nz2, nz3]
      refine skx 46 129 rfl rfl rfl (⟨hm185.at 10 rfl, hm185.at 2 rfl, ((hm185.see 1 rfl)), ((hm185.see 9 rfl).1), ((hm185.see 3 rfl))⟩) ?_
      simp only [nz1, nz2, nz3]
      refine skx 47 130 rfl rfl rfl (⟨hm185.at 10 rfl, hm185.at 2 rfl, ((hm185.see 1 rfl)), ((hm185.see 9 rfl).1), ((hm185.see 3 rfl))⟩) ?_
      simp only [nz1, nz2, nz3]
      refine skx 48 131 rfl rfl rfl (⟨hm185.at 10 rfl, hm185.at 2 rfl, ((hm185.see 1 rfl)), ((hm185.see 9 rfl).1), ((hm185.see 3 rfl))⟩) ?_
      simp only [nz1, nz2, nz3]
      refine skx 49 132 rfl rfl rfl (⟨hm185.at 10 rfl, hm185.at 2 rfl, ((hm185.see 1 rfl)), ((hm185.see 9 rfl).1), ((hm185.see 3 rfl))⟩) ?_
      simp only [nz1, nz2, nz3]
      refine skx 50 133 rfl rfl rfl (⟨hm185.at 10 rfl, hm185.at 2 rfl, ((hm185.see 1 rfl)), ((hm185.see 9 rfl).1), ((hm185.see 3 rfl))⟩) ?_
      simp only [nz1, nz2, nz3]
      refine skx 51 134 rfl rfl rfl (⟨hm185.at 10 rfl, hm185.at 2 rfl, ((hm185.see 1 rfl)), ((hm185.see 9 rfl).1), ((hm185.see 3 rfl))⟩) ?_
      simp only [nz1, nz2, nz3]
      refine tk 52 135 (.bool true) rfl rfl (fun _ hw => run_pick rfl rfl rfl) (⟨hm185.at 10 rfl, hm185.at 2 rfl, ((hm185.see 1 rfl)), ((hm185.see 9 rfl).1), ((hm185.see 3 rfl))⟩) ?_
      simp only [nz1, nz2, nz3]
      refine wpAnyH_done (by kernel_rfl) ?_ _
      refine then_n (hK184 _ _ ?_)
      refine cond_t rfl ?_
      refine wp_seq_k (fun K188 hK188 => ?_)
      refine wp_region_lit ?_
      refine lvw 4 (.bool false) rfl rfl (run_as rfl rfl) ?_
      simp only [nz1, nz2, nz3]
      refine wpList_nil ?_
      refine then_n (hK188 _ _ ?_)
      refine wp_ret ?_
      refine then_r ?_
      refine blk_r ?_
      refine then_r ?_
      refine then_r ?_
      refine blk_r ?_
      refine then_r ?_
      refine then_r ?_
      have he189 : last_m_l0 d l ((l.length - 0) + 1) (0, d.safe, d.loose, -1, d.down) = .inr false := (hi48.trans (show last_m_b0 d l (last_m_l0 d l k47) x29 l30 l34 x38 x39 = .inr false from by unfold last_m_b0; rw [if_pos hc66, if_neg hc123, if_pos hs187] <;> rfl))
      have he190 : last_m d l = false := (show last_m d l = false from by unfold last_m; rw [if_neg hs9, if_neg hs14, if_neg hc19, he189] <;> rfl)
      exact ⟨rfl, .bool false, res_t rfl rfl, ⟨by rw [he190], hm185.below⟩⟩
    simp only [nz1, nz2, nz3]
    refine tk 2 85 (.bool false) rfl rfl (fun _ hw => run_mv rfl rfl) (⟨hm185.at 10 rfl, hm185.at 2 rfl, ((hm185.see 1 rfl)), ((hm185.see 9 rfl).1), ((hm185.see 3 rfl))⟩) ?_
    simp only [nz1, nz2, nz3]
    refine Sym.take_at 3 86 (.int .i64 ((flush_m ((put_m (Dk.mk l30 l34 x38 x39) ((l.getD x29 dWr).at_) ((l.getD x29 dWr).data)).1)).2)) rfl rfl (by kernel_rfl) (by kernel_rfl) (by kernel_rfl) (fun _ _ _ h => h) rfl (fun _ hw => run_mv rfl rfl) (⟨hm185.at 10 rfl, hm185.at 2 rfl, ((hm185.see 1 rfl)), ((hm185.see 9 rfl).1), ((hm185.see 3 rfl))⟩) ?_
    simp only [nz1, nz2, nz3]
    refine tkb 4 87 (¬ (flush_m ((put_m (Dk.mk l30 l34 x38 x39) ((l.getD x29 dWr).at_) ((l.getD x29 dWr).data)).1)).2 = 0) rfl rfl rfl (fun _ hw => z_neq ((flush_m ((put_m (Dk.mk l30 l34 x38 x39) ((l.getD x29 dWr).at_) ((l.getD x29 dWr).data)).1)).2) 0 rfl rfl rfl) (⟨hm185.at 10 rfl, hm185.at 2 rfl, ((hm185.see 1 rfl)), ((hm185.see 9 rfl).1), ((hm185.see 3 rfl))⟩) (fun hs191 => ?_) (fun hs191 => ?_)
    · simp only [nz1, nz2, nz3]
      refine tk 5 88 (.bool true) rfl rfl (fun _ hw => run_pickf rfl rfl rfl) (⟨hm185.at 10 rfl, hm185.at 2 rfl, ((hm185.see 1 rfl)), ((hm185.see 9 rfl).1), ((hm185.see 3 rfl))⟩) ?_
      simp only [nz1, nz2, nz3]
      refine tk 6 89 (.bool true) rfl rfl (fun _ hw => run_mv rfl rfl) (⟨hm185.at 10 rfl, hm185.at 2 rfl, ((hm185.see 1 rfl)), ((hm185.see 9 rfl).1), ((hm185.see 3 rfl))⟩) ?_
      simp only [nz1, nz2, nz3]
      refine skx 7 90 rfl rfl rfl (⟨hm185.at 10 rfl, hm185.at 2 rfl, ((hm185.see 1 rfl)), ((hm185.see 9 rfl).1), ((hm185.see 3 rfl))⟩) ?_
      simp only [nz1, nz2, nz3]
      refine skx 8 91 rfl rfl rfl (⟨hm185.at 10 rfl, hm185.at 2 rfl, ((hm185.see 1 rfl)), ((hm185.see 9 rfl).1), ((hm185.see 3 rfl))⟩) ?_
      simp only [nz1, nz2, nz3]
      refine tk 9 92 (.bool true) rfl rfl (fun _ hw => run_pick rfl rfl rfl) (⟨hm185.at 10 rfl, hm185.at 2 rfl, ((hm185.see 1 rfl)), ((hm185.see 9 rfl).1), ((hm185.see 3 rfl))⟩) ?_
      simp only [nz1, nz2, nz3]
      refine tk 10 93 (.bool true) rfl rfl (fun _ hw => run_mv rfl rfl) (⟨hm185.at 10 rfl, hm185.at 2 rfl, ((hm185.see 1 rfl)), ((hm185.see 9 rfl).1), ((hm185.see 3 rfl))⟩) ?_
      simp only [nz1, nz2, nz3]
      refine skx 11 94 rfl rfl rfl (⟨hm185.at 10 rfl, hm185.at 2 rfl, ((hm185.see 1 rfl)), ((hm185.see 9 rfl).1), ((hm185.see 3 rfl))⟩) ?_
      simp only [nz1, nz2, nz3]
      refine skx 12 95 rfl rfl rfl (⟨hm185.at 10 rfl, hm185.at 2 rfl, ((hm185.see 1 rfl)), ((hm185.see 9 rfl).1), ((hm185.see 3 rfl))⟩) ?_
      simp only [nz1, nz2, nz3]
      refine tk 13 96 (.bool true) rfl rfl (fun _ hw => run_pick rfl rfl rfl) (⟨hm185.at 10 rfl, hm185.at 2 rfl, ((hm185.see 1 rfl)), ((hm185.see 9 rfl).1), ((hm185.see 3 rfl))⟩) ?_
      simp only [nz1, nz2, nz3]
      refine tk 14 97 (.bool true) rfl rfl (fun _ hw => run_mv rfl rfl) (⟨hm185.at 10 rfl, hm185.at 2 rfl, ((hm185.see 1 rfl)), ((hm185.see 9 rfl).1), ((hm185.see 3 rfl))⟩) ?_
      simp only [nz1, nz2, nz3]
      refine skx 15 98 rfl rfl rfl (⟨hm185.at 10 rfl, hm185.at 2 rfl, ((hm185.see 1 rfl)), ((hm185.see 9 rfl).1), ((hm185.see 3 rfl))⟩) ?_
      simp only [nz1, nz2, nz3]
      refine skx 16 99 rfl rfl rfl (⟨hm185.at 10 rfl, hm185.at 2 rfl, ((hm185.see 1 rfl)), ((hm185.see 9 rfl).1), ((hm185.see 3 rfl))⟩) ?_
      simp only [nz1, nz2, nz3]
      refine skx 17 100 rfl rfl rfl (⟨hm185.at 10 rfl, hm185.at 2 rfl, ((hm185.see 1 rfl)), ((hm185.see 9 rfl).1), ((hm185.see 3 rfl))⟩) ?_
      simp only [nz1, nz2, nz3]
      refine skx 18 101 rfl rfl rfl (⟨hm185.at 10 rfl, hm185.at 2 rfl, ((hm185.see 1 rfl)), ((hm185.see 9 rfl).1), ((hm185.see 3 rfl))⟩) ?_
      simp only [nz1, nz2, nz3]
      refine skx 19 102 rfl rfl rfl (⟨hm185.at 10 rfl, hm185.at 2 rfl, ((hm185.see 1 rfl)), ((hm185.see 9 rfl).1), ((hm185.see 3 rfl))⟩) ?_
      simp only [nz1, nz2, nz3]
      refine skx 20 103 rfl rfl rfl (⟨hm185.at 10 rfl, hm185.at 2 rfl, ((hm185.see 1 rfl)), ((hm185.see 9 rfl).1), ((hm185.see 3 rfl))⟩) ?_
      simp only [nz1, nz2, nz3]
      refine skx 21 104 rfl rfl rfl (⟨hm185.at 10 rfl, hm185.at 2 rfl, ((hm185.see 1 rfl)), ((hm185.see 9 rfl).1), ((hm185.see 3 rfl))⟩) ?_
      simp only [nz1, nz2, nz3]
      refine tk 22 105 (.bool true) rfl rfl (fun _ hw => run_pick rfl rfl rfl) (⟨hm185.at 10 rfl, hm185.at 2 rfl, ((hm185.see 1 rfl)), ((hm185.see 9 rfl).1), ((hm185.see 3 rfl))⟩) ?_
      simp only [nz1, nz2, nz3]
      refine tk 23 106 (.bool true) rfl rfl (fun _ hw => run_mv rfl rfl) (⟨hm185.at 10 rfl, hm185.at 2 rfl, ((hm185.see 1 rfl)), ((hm185.see 9 rfl).1), ((hm185.see 3 rfl))⟩) ?_
      simp only [nz1, nz2, nz3]
      refine skx 24 107 rfl rfl rfl (⟨hm185.at 10 rfl, hm185.at 2 rfl, ((hm185.see 1 rfl)), ((hm185.see 9 rfl).1), ((hm185.see 3 rfl))⟩) ?_
      simp only [nz1, nz2, nz3]
      refine skx 25 108 rfl rfl rfl (⟨hm185.at 10 rfl, hm185.at 2 rfl, ((hm185.see 1 rfl)), ((hm185.see 9 rfl).1), ((hm185.see 3 rfl))⟩) ?_
      simp only [nz1, nz2, nz3]
      refine skx 26 109 rfl rfl rfl (⟨hm185.at 10 rfl, hm185.at 2 rfl, ((hm185.see 1 rfl)), ((hm185.see 9 rfl).1), ((hm185.see 3 rfl))⟩) ?_
      simp only [nz1, nz2, nz3]
      refine skx 27 110 rfl rfl rfl (⟨hm185.at 10 rfl, hm185.at 2 rfl, ((hm185.see 1 rfl)), ((hm185.see 9 rfl).1), ((hm185.see 3 rfl))⟩) ?_
      simp only [nz1, nz2, nz3]
      refine skx 28 111 rfl rfl rfl (⟨hm185.at 10 rfl, hm185.at 2 rfl, ((hm185.see 1 rfl)), ((hm185.see 9 rfl).1), ((hm185.see 3 rfl))⟩) ?_
      simp only [nz1, nz2, nz3]
      refine skx 29 112 rfl rfl rfl (⟨hm185.at 10 rfl, hm185.at 2 rfl, ((hm185.see 1 rfl)), ((hm185.see 9 rfl).1), ((hm185.see 3 rfl))⟩) ?_
      simp only [nz1, nz2, nz3]
      refine skx 30 113 rfl rfl rfl (⟨hm185.at 10 rfl, hm185.at 2 rfl, ((hm185.see 1 rfl)), ((hm185.see 9 rfl).1), ((hm185.see 3 rfl))⟩) ?_
      simp only [nz1, nz2, nz3]
      refine tk 31 114 (.bool true) rfl rfl (fun _ hw => run_pick rfl rfl rfl) (⟨hm185.at 10 rfl, hm185.at 2 rfl, ((hm185.see 1 rfl)), ((hm185.see 9 rfl).1), ((hm185.see 3 rfl))⟩) ?_
      simp only [nz1, nz2, nz3]
      refine tk 32 115 (.bool true) rfl rfl (fun _ hw => run_mv rfl rfl) (⟨hm185.at 10 rfl, hm185.at 2 rfl, ((hm185.see 1 rfl)), ((hm185.see 9 rfl).1), ((hm185.see 3 rfl))⟩) ?_
      simp only [nz1, nz2, nz3]
      refine skx 33 116 rfl rfl rfl (⟨hm185.at 10 rfl, hm185.at 2 rfl, ((hm185.see 1 rfl)), ((hm185.see 9 rfl).1), ((hm185.see 3 rfl))⟩) ?_
      simp only [nz1, nz2, nz3]
      refine skx 34 117 rfl rfl rfl (⟨hm185.at 10 rfl, hm185.at 2 rfl, ((hm185.see 1 rfl)), ((hm185.see 9 rfl).1), ((hm185.see 3 rfl))⟩) ?_
      simp only [nz1, nz2, nz3]
      refine skx 35 118 rfl rfl rfl (⟨hm185.at 10 rfl, hm185.at 2 rfl, ((hm185.see 1 rfl)), ((hm185.see 9 rfl).1), ((hm185.see 3 rfl))⟩) ?_
      simp only [nz1, nz2, nz3]
      refine skx 36 119 rfl rfl rfl (⟨hm185.at 10 rfl, hm185.at 2 rfl, ((hm185.see 1 rfl)), ((hm185.see 9 rfl).1), ((hm185.see 3 rfl))⟩) ?_
      simp only [nz1, nz2, nz3]
      refine skx 37 120 rfl rfl rfl (⟨hm185.at 10 rfl, hm185.at 2 rfl, ((hm185.see 1 rfl)), ((hm185.see 9 rfl).1), ((hm185.see 3 rfl))⟩) ?_
      simp only [nz1, nz2, nz3]
      refine skx 38 121 rfl rfl rfl (⟨hm185.at 10 rfl, hm185.at 2 rfl, ((hm185.see 1 rfl)), ((hm185.see 9 rfl).1), ((hm185.see 3 rfl))⟩) ?_
      simp only [nz1, nz2, nz3]
      refine skx 39 122 rfl rfl rfl (⟨hm185.at 10 rfl, hm185.at 2 rfl, ((hm185.see 1 rfl)), ((hm185.see 9 rfl).1), ((hm185.see 3 rfl))⟩) ?_
      simp only [nz1, nz2, nz3]
      refine skx 40 123 rfl rfl rfl (⟨hm185.at 10 rfl, hm185.at 2 rfl, ((hm185.see 1 rfl)), ((hm185.see 9 rfl).1), ((hm185.see 3 rfl))⟩) ?_
      simp only [nz1, nz2, nz3]
      refine skx 41 124 rfl rfl rfl (⟨hm185.at 10 rfl, hm185.at 2 rfl, ((hm185.see 1 rfl)), ((hm185.see 9 rfl).1), ((hm185.see 3 rfl))⟩) ?_
      simp only [nz1, nz2, nz3]
      refine skx 42 125 rfl rfl rfl (⟨hm185.at 10 rfl, hm185.at 2 rfl, ((hm185.see 1 rfl)), ((hm185.see 9 rfl).1), ((hm185.see 3 rfl))⟩) ?_
      simp only [nz1, nz2, nz3]
      refine skx 43 126 rfl rfl rfl (⟨hm185.at 10 rfl, hm185.at 2 rfl, ((hm185.see 1 rfl)), ((hm185.see 9 rfl).1), ((hm185.see 3 rfl))⟩) ?_
      simp only [nz1, nz2, nz3]
      refine skx 44 127 rfl rfl rfl (⟨hm185.at 10 rfl, hm185.at 2 rfl, ((hm185.see 1 rfl)), ((hm185.see 9 rfl).1), ((hm185.see 3 rfl))⟩) ?_
      simp only [nz1, nz2, nz3]
      refine skx 45 128 rfl rfl rfl (⟨hm185.at 10 rfl, hm185.at 2 rfl, ((hm185.see 1 rfl)), ((hm185.see 9 rfl).1), ((hm185.see 3 rfl))⟩) ?_
      simp only [nz1, nz2, nz3]
      refine skx 46 129 rfl rfl rfl (⟨hm185.at 10 rfl, hm185.at 2 rfl, ((hm185.see 1 rfl)), ((hm185.see 9 rfl).1), ((hm185.see 3 rfl))⟩) ?_
      simp only [nz1, nz2, nz3]
      refine skx 47 130 rfl rfl rfl (⟨hm185.at 10 rfl, hm185.at 2 rfl, ((hm185.see 1 rfl)), ((hm185.see 9 rfl).1), ((hm185.see 3 rfl))⟩) ?_
      simp only [nz1, nz2, nz3]
      refine skx 48 131 rfl rfl rfl (⟨hm185.at 10 rfl, hm185.at 2 rfl, ((hm185.see 1 rfl)), ((hm185.see 9 rfl).1), ((hm185.see 3 rfl))⟩) ?_
      simp only [nz1, nz2, nz3]
      refine skx 49 132 rfl rfl rfl (⟨hm185.at 10 rfl, hm185.at 2 rfl, ((hm185.see 1 rfl)), ((hm185.see 9 rfl).1), ((hm185.see 3 rfl))⟩) ?_
      simp only [nz1, nz2, nz3]
      refine skx 50 133 rfl rfl rfl (⟨hm185.at 10 rfl, hm185.at 2 rfl, ((hm185.see 1 rfl)), ((hm185.see 9 rfl).1), ((hm185.see 3 rfl))⟩) ?_
      simp only [nz1, nz2, nz3]
      refine skx 51 134 rfl rfl rfl (⟨hm185.at 10 rfl, hm185.at 2 rfl, ((hm185.see 1 rfl)), ((hm185.see 9 rfl).1), ((hm185.see 3 rfl))⟩) ?_
      simp only [nz1, nz2, nz3]
      refine tk 52 135 (.bool true) rfl rfl (fun _ hw => run_pick rfl rfl rfl) (⟨hm185.at 10 rfl, hm185.at 2 rfl, ((hm185.see 1 rfl)), ((hm185.see 9 rfl).1), ((hm185.see 3 rfl))⟩) ?_
      simp only [nz1, nz2, nz3]
      refine wpAnyH_done (by kernel_rfl) ?_ _
      refine then_n (hK184 _ _ ?_)
      refine cond_t rfl ?_
      refine wp_seq_k (fun K192 hK192 => ?_)
      refine wp_region_lit ?_
      refine lvw 4 (.bool false) rfl rfl (run_as rfl rfl) ?_
      simp only [nz1, nz2, nz3]
      refine wpList_nil ?_
      refine then_n (hK192 _ _ ?_)
      refine wp_ret ?_
      refine then_r ?_
      refine blk_r ?_
      refine then_r ?_
      refine then_r ?_
      refine blk_r ?_
      refine then_r ?_
      refine then_r ?_
      have he193 : last_m_l0 d l ((l.length - 0) + 1) (0, d.safe, d.loose, -1, d.down) = .inr false := (hi48.trans (show last_m_b0 d l (last_m_l0 d l k47) x29 l30 l34 x38 x39 = .inr false from by unfold last_m_b0; rw [if_pos hc66, if_neg hc123, if_neg hs187, if_pos hs191] <;> rfl))
      have he194 : last_m d l = false := (show last_m d l = false from by unfold last_m; rw [if_neg hs9, if_neg hs14, if_neg hc19, he193] <;> rfl)
      exact ⟨rfl, .bool false, res_t rfl rfl, ⟨by rw [he194], hm185.below⟩⟩
    simp only [nz1, nz2, nz3]
    refine tk 5 88 (.bool false) rfl rfl (fun _ hw => run_pickf rfl rfl rfl) (⟨hm185.at 10 rfl, hm185.at 2 rfl, ((hm185.see 1 rfl)), ((hm185.see 9 rfl).1), ((hm185.see 3 rfl))⟩) ?_
    simp only [nz1, nz2, nz3]
    refine tk 6 89 (.bool false) rfl rfl (fun _ hw => run_mv rfl rfl) (⟨hm185.at 10 rfl, hm185.at 2 rfl, ((hm185.see 1 rfl)), ((hm185.see 9 rfl).1), ((hm185.see 3 rfl))⟩) ?_
    simp only [nz1, nz2, nz3]
    refine Sym.take_at 7 90 (.int .i64 ((get_m ((flush_m ((put_m (Dk.mk l30 l34 x38 x39) ((l.getD x29 dWr).at_) ((l.getD x29 dWr).data)).1)).1) ((l.getD x29 dWr).at_)).2)) rfl rfl (by kernel_rfl) (by kernel_rfl) (by kernel_rfl) (fun _ _ _ h => h) rfl (fun _ hw => run_mv rfl rfl) (⟨hm185.at 10 rfl, hm185.at 2 rfl, ((hm185.see 1 rfl)), ((hm185.see 9 rfl).1), ((hm185.see 3 rfl))⟩) ?_
    simp only [nz1, nz2, nz3]
    refine tkb 8 91 (¬ (get_m ((flush_m ((put_m (Dk.mk l30 l34 x38 x39) ((l.getD x29 dWr).at_) ((l.getD x29 dWr).data)).1)).1) ((l.getD x29 dWr).at_)).2 = 0) rfl rfl rfl (fun _ hw => z_neq ((get_m ((flush_m ((put_m (Dk.mk l30 l34 x38 x39) ((l.getD x29 dWr).at_) ((l.getD x29 dWr).data)).1)).1) ((l.getD x29 dWr).at_)).2) 0 rfl rfl rfl) (⟨hm185.at 10 rfl, hm185.at 2 rfl, ((hm185.see 1 rfl)), ((hm185.see 9 rfl).1), ((hm185.see 3 rfl))⟩) (fun hs195 => ?_) (fun hs195 => ?_)
    · simp only [nz1, nz2, nz3]
      refine tk 9 92 (.bool true) rfl rfl (fun _ hw => run_pickf rfl rfl rfl) (⟨hm185.at 10 rfl, hm185.at 2 rfl, ((hm185.see 1 rfl)), ((hm185.see 9 rfl).1), ((hm185.see 3 rfl))⟩) ?_
      simp only [nz1, nz2, nz3]
      refine tk 10 93 (.bool true) rfl rfl (fun _ hw => run_mv rfl rfl) (⟨hm185.at 10 rfl, hm185.at 2 rfl, ((hm185.see 1 rfl)), ((hm185.see 9 rfl).1), ((hm185.see 3 rfl))⟩) ?_
      simp only [nz1, nz2, nz3]
      refine skx 11 94 rfl rfl rfl (⟨hm185.at 10 rfl, hm185.at 2 rfl, ((hm185.see 1 rfl)), ((hm185.see 9 rfl).1), ((hm185.see 3 rfl))⟩) ?_
      simp only [nz1, nz2, nz3]
      refine skx 12 95 rfl rfl rfl (⟨hm185.at 10 rfl, hm185.at 2 rfl, ((hm185.see 1 rfl)), ((hm185.see 9 rfl).1), ((hm185.see 3 rfl))⟩) ?_
      simp only [nz1, nz2, nz3]
      refine tk 13 96 (.bool true) rfl rfl (fun _ hw => run_pick rfl rfl rfl) (⟨hm185.at 10 rfl, hm185.at 2 rfl, ((hm185.see 1 rfl)), ((hm185.see 9 rfl).1), ((hm185.see 3 rfl))⟩) ?_
      simp only [nz1, nz2, nz3]
      refine tk 14 97 (.bool true) rfl rfl (fun _ hw => run_mv rfl rfl) (⟨hm185.at 10 rfl, hm185.at 2 rfl, ((hm185.see 1 rfl)), ((hm185.see 9 rfl).1), ((hm185.see 3 rfl))⟩) ?_
      simp only [nz1, nz2, nz3]
      refine skx 15 98 rfl rfl rfl (⟨hm185.at 10 rfl, hm185.at 2 rfl, ((hm185.see 1 rfl)), ((hm185.see 9 rfl).1), ((hm185.see 3 rfl))⟩) ?_
      simp only [nz1, nz2, nz3]
      refine skx 16 99 rfl rfl rfl (⟨hm185.at 10 rfl, hm185.at 2 rfl, ((hm185.see 1 rfl)), ((hm185.see 9 rfl).1), ((hm185.see 3 rfl))⟩) ?_
      simp only [nz1, nz2, nz3]
      refine skx 17 100 rfl rfl rfl (⟨hm185.at 10 rfl, hm185.at 2 rfl, ((hm185.see 1 rfl)), ((hm185.see 9 rfl).1), ((hm185.see 3 rfl))⟩) ?_
      simp only [nz1, nz2, nz3]
      refine skx 18 101 rfl rfl rfl (⟨hm185.at 10 rfl, hm185.at 2 rfl, ((hm185.see 1 rfl)), ((hm185.see 9 rfl).1), ((hm185.see 3 rfl))⟩) ?_
      simp only [nz1, nz2, nz3]
      refine skx 19 102 rfl rfl rfl (⟨hm185.at 10 rfl, hm185.at 2 rfl, ((hm185.see 1 rfl)), ((hm185.see 9 rfl).1), ((hm185.see 3 rfl))⟩) ?_
      simp only [nz1, nz2, nz3]
      refine skx 20 103 rfl rfl rfl (⟨hm185.at 10 rfl, hm185.at 2 rfl, ((hm185.see 1 rfl)), ((hm185.see 9 rfl).1), ((hm185.see 3 rfl))⟩) ?_
      simp only [nz1, nz2, nz3]
      refine skx 21 104 rfl rfl rfl (⟨hm185.at 10 rfl, hm185.at 2 rfl, ((hm185.see 1 rfl)), ((hm185.see 9 rfl).1), ((hm185.see 3 rfl))⟩) ?_
      simp only [nz1, nz2, nz3]
      refine tk 22 105 (.bool true) rfl rfl (fun _ hw => run_pick rfl rfl rfl) (⟨hm185.at 10 rfl, hm185.at 2 rfl, ((hm185.see 1 rfl)), ((hm185.see 9 rfl).1), ((hm185.see 3 rfl))⟩) ?_
      simp only [nz1, nz2, nz3]
      refine tk 23 106 (.bool true) rfl rfl (fun _ hw => run_mv rfl rfl) (⟨hm185.at 10 rfl, hm185.at 2 rfl, ((hm185.see 1 rfl)), ((hm185.see 9 rfl).1), ((hm185.see 3 rfl))⟩) ?_
      simp only [nz1, nz2, nz3]
      refine skx 24 107 rfl rfl rfl (⟨hm185.at 10 rfl, hm185.at 2 rfl, ((hm185.see 1 rfl)), ((hm185.see 9 rfl).1), ((hm185.see 3 rfl))⟩) ?_
      simp only [nz1, nz2, nz3]
      refine skx 25 108 rfl rfl rfl (⟨hm185.at 10 rfl, hm185.at 2 rfl, ((hm185.see 1 rfl)), ((hm185.see 9 rfl).1), ((hm185.see 3 rfl))⟩) ?_
      simp only [nz1, nz2, nz3]
      refine skx 26 109 rfl rfl rfl (⟨hm185.at 10 rfl, hm185.at 2 rfl, ((hm185.see 1 rfl)), ((hm185.see 9 rfl).1), ((hm185.see 3 rfl))⟩) ?_
      simp only [nz1, nz2, nz3]
      refine skx 27 110 rfl rfl rfl (⟨hm185.at 10 rfl, hm185.at 2 rfl, ((hm185.see 1 rfl)), ((hm185.see 9 rfl).1), ((hm185.see 3 rfl))⟩) ?_
      simp only [nz1, nz2, nz3]
      refine skx 28 111 rfl rfl rfl (⟨hm185.at 10 rfl, hm185.at 2 rfl, ((hm185.see 1 rfl)), ((hm185.see 9 rfl).1), ((hm185.see 3 rfl))⟩) ?_
      simp only [nz1, nz2, nz3]
      refine skx 29 112 rfl rfl rfl (⟨hm185.at 10 rfl, hm185.at 2 rfl, ((hm185.see 1 rfl)), ((hm185.see 9 rfl).1), ((hm185.see 3 rfl))⟩) ?_
      simp only [nz1, nz2, nz3]
      refine skx 30 113 rfl rfl rfl (⟨hm185.at 10 rfl, hm185.at 2 rfl, ((hm185.see 1 rfl)), ((hm185.see 9 rfl).1), ((hm185.see 3 rfl))⟩) ?_
      simp only [nz1, nz2, nz3]
      refine tk 31 114 (.bool true) rfl rfl (fun _ hw => run_pick rfl rfl rfl) (⟨hm185.at 10 rfl, hm185.at 2 rfl, ((hm185.see 1 rfl)), ((hm185.see 9 rfl).1), ((hm185.see 3 rfl))⟩) ?_
      simp only [nz1, nz2, nz3]
      refine tk 32 115 (.bool true) rfl rfl (fun _ hw => run_mv rfl rfl) (⟨hm185.at 10 rfl, hm185.at 2 rfl, ((hm185.see 1 rfl)), ((hm185.see 9 rfl).1), ((hm185.see 3 rfl))⟩) ?_
      simp only [nz1, nz2, nz3]
      refine skx 33 116 rfl rfl rfl (⟨hm185.at 10 rfl, hm185.at 2 rfl, ((hm185.see 1 rfl)), ((hm185.see 9 rfl).1), ((hm185.see 3 rfl))⟩) ?_
      simp only [nz1, nz2, nz3]
      refine skx 34 117 rfl rfl rfl (⟨hm185.at 10 rfl, hm185.at 2 rfl, ((hm185.see 1 rfl)), ((hm185.see 9 rfl).1), ((hm185.see 3 rfl))⟩) ?_
      simp only [nz1, nz2, nz3]
      refine skx 35 118 rfl rfl rfl (⟨hm185.at 10 rfl, hm185.at 2 rfl, ((hm185.see 1 rfl)), ((hm185.see 9 rfl).1), ((hm185.see 3 rfl))⟩) ?_
      simp only [nz1, nz2, nz3]
      refine skx 36 119 rfl rfl rfl (⟨hm185.at 10 rfl, hm185.at 2 rfl, ((hm185.see 1 rfl)), ((hm185.see 9 rfl).1), ((hm185.see 3 rfl))⟩) ?_
      simp only [nz1, nz2, nz3]
      refine skx 37 120 rfl rfl rfl (⟨hm185.at 10 rfl, hm185.at 2 rfl, ((hm185.see 1 rfl)), ((hm185.see 9 rfl).1), ((hm185.see 3 rfl))⟩) ?_
      simp only [nz1, nz2, nz3]
      refine skx 38 121 rfl rfl rfl (⟨hm185.at 10 rfl, hm185.at 2 rfl, ((hm185.see 1 rfl)), ((hm185.see 9 rfl).1), ((hm185.see 3 rfl))⟩) ?_
      simp only [nz1, nz2, nz3]
      refine skx 39 122 rfl rfl rfl (⟨hm185.at 10 rfl, hm185.at 2 rfl, ((hm185.see 1 rfl)), ((hm185.see 9 rfl).1), ((hm185.see 3 rfl))⟩) ?_
      simp only [nz1, nz2, nz3]
      refine skx 40 123 rfl rfl rfl (⟨hm185.at 10 rfl, hm185.at 2 rfl, ((hm185.see 1 rfl)), ((hm185.see 9 rfl).1), ((hm185.see 3 rfl))⟩) ?_
      simp only [nz1, nz2, nz3]
      refine skx 41 124 rfl rfl rfl (⟨hm185.at 10 rfl, hm185.at 2 rfl, ((hm185.see 1 rfl)), ((hm185.see 9 rfl).1), ((hm185.see 3 rfl))⟩) ?_
      simp only [nz1, nz2, nz3]
      refine skx 42 125 rfl rfl rfl (⟨hm185.at 10 rfl, hm185.at 2 rfl, ((hm185.see 1 rfl)), ((hm185.see 9 rfl).1), ((hm185.see 3 rfl))⟩) ?_
      simp only [nz1, nz2, nz3]
      refine skx 43 126 rfl rfl rfl (⟨hm185.at 10 rfl, hm185.at 2 rfl, ((hm185.see 1 rfl)), ((hm185.see 9 rfl).1), ((hm185.see 3 rfl))⟩) ?_
      simp only [nz1, nz2, nz3]
      refine skx 44 127 rfl rfl rfl (⟨hm185.at 10 rfl, hm185.at 2 rfl, ((hm185.see 1 rfl)), ((hm185.see 9 rfl).1), ((hm185.see 3 rfl))⟩) ?_
      simp only [nz1, nz2, nz3]
      refine skx 45 128 rfl rfl rfl (⟨hm185.at 10 rfl, hm185.at 2 rfl, ((hm185.see 1 rfl)), ((hm185.see 9 rfl).1), ((hm185.see 3 rfl))⟩) ?_
      simp only [nz1, nz2, nz3]
      refine skx 46 129 rfl rfl rfl (⟨hm185.at 10 rfl, hm185.at 2 rfl, ((hm185.see 1 rfl)), ((hm185.see 9 rfl).1), ((hm185.see 3 rfl))⟩) ?_
      simp only [nz1, nz2, nz3]
      refine skx 47 130 rfl rfl rfl (⟨hm185.at 10 rfl, hm185.at 2 rfl, ((hm185.see 1 rfl)), ((hm185.see 9 rfl).1), ((hm185.see 3 rfl))⟩) ?_
      simp only [nz1, nz2, nz3]
      refine skx 48 131 rfl rfl rfl (⟨hm185.at 10 rfl, hm185.at 2 rfl, ((hm185.see 1 rfl)), ((hm185.see 9 rfl).1), ((hm185.see 3 rfl))⟩) ?_
      simp only [nz1, nz2, nz3]
      refine skx 49 132 rfl rfl rfl (⟨hm185.at 10 rfl, hm185.at 2 rfl, ((hm185.see 1 rfl)), ((hm185.see 9 rfl).1), ((hm185.see 3 rfl))⟩) ?_
      simp only [nz1, nz2, nz3]
      refine skx 50 133 rfl rfl rfl (⟨hm185.at 10 rfl, hm185.at 2 rfl, ((hm185.see 1 rfl)), ((hm185.see 9 rfl).1), ((hm185.see 3 rfl))⟩) ?_
      simp only [nz1, nz2, nz3]
      refine skx 51 134 rfl rfl rfl (⟨hm185.at 10 rfl, hm185.at 2 rfl, ((hm185.see 1 rfl)), ((hm185.see 9 rfl).1), ((hm185.see 3 rfl))⟩) ?_
      simp only [nz1, nz2, nz3]
      refine tk 52 135 (.bool true) rfl rfl (fun _ hw => run_pick rfl rfl rfl) (⟨hm185.at 10 rfl, hm185.at 2 rfl, ((hm185.see 1 rfl)), ((hm185.see 9 rfl).1), ((hm185.see 3 rfl))⟩) ?_
      simp only [nz1, nz2, nz3]
      refine wpAnyH_done (by kernel_rfl) ?_ _
      refine then_n (hK184 _ _ ?_)
      refine cond_t rfl ?_
      refine wp_seq_k (fun K196 hK196 => ?_)
      refine wp_region_lit ?_
      refine lvw 4 (.bool false) rfl rfl (run_as rfl rfl) ?_
      simp only [nz1, nz2, nz3]
      refine wpList_nil ?_
      refine then_n (hK196 _ _ ?_)
      refine wp_ret ?_
      refine then_r ?_
      refine blk_r ?_
      refine then_r ?_
      refine then_r ?_
      refine blk_r ?_
      refine then_r ?_
      refine then_r ?_
      have he197 : last_m_l0 d l ((l.length - 0) + 1) (0, d.safe, d.loose, -1, d.down) = .inr false := (hi48.trans (show last_m_b0 d l (last_m_l0 d l k47) x29 l30 l34 x38 x39 = .inr false from by unfold last_m_b0; rw [if_pos hc66, if_neg hc123, if_neg hs187, if_neg hs191, if_pos hs195] <;> rfl))
      have he198 : last_m d l = false := (show last_m d l = false from by unfold last_m; rw [if_neg hs9, if_neg hs14, if_neg hc19, he197] <;> rfl)
      exact ⟨rfl, .bool false, res_t rfl rfl, ⟨by rw [he198], hm185.below⟩⟩
    simp only [nz1, nz2, nz3]
    refine tk 9 92 (.bool false) rfl rfl (fun _ hw => run_pickf rfl rfl rfl) (⟨hm185.at 10 rfl, hm185.at 2 rfl, ((hm185.see 1 rfl)), ((hm185.see 9 rfl).1), ((hm185.see 3 rfl))⟩) ?_
    simp only [nz1, nz2, nz3]
    refine tk 10 93 (.bool false) rfl rfl (fun _ hw => run_mv rfl rfl) (⟨hm185.at 10 rfl, hm185.at 2 rfl, ((hm185.see 1 rfl)), ((hm185.see 9 rfl).1), ((hm185.see 3 rfl))⟩) ?_
    simp only [nz1, nz2, nz3]
    refine Sym.take_at 11 94 (.int .i64 ((crash_m ((put_m (Dk.mk l30 l34 x38 x39) ((l.getD x29 dWr).at_) ((l.getD x29 dWr).data)).1) ([] : List UInt8) (-1)).2)) rfl rfl (by kernel_rfl) (by kernel_rfl) (by kernel_rfl) (fun _ _ _ h => h) rfl (fun _ hw => run_mv rfl rfl) (⟨hm185.at 10 rfl, hm185.at 2 rfl, ((hm185.see 1 rfl)), ((hm185.see 9 rfl).1), ((hm185.see 3 rfl))⟩) ?_
    simp only [nz1, nz2, nz3]
    refine tkb 12 95 (¬ (crash_m ((put_m (Dk.mk l30 l34 x38 x39) ((l.getD x29 dWr).at_) ((l.getD x29 dWr).data)).1) ([] : List UInt8) (-1)).2 = 0) rfl rfl rfl (fun _ hw => z_neq ((crash_m ((put_m (Dk.mk l30 l34 x38 x39) ((l.getD x29 dWr).at_) ((l.getD x29 dWr).data)).1) ([] : List UInt8) (-1)).2) 0 rfl rfl rfl) (⟨hm185.at 10 rfl, hm185.at 2 rfl, ((hm185.see 1 rfl)), ((hm185.see 9 rfl).1), ((hm185.see 3 rfl))⟩) (fun hs199 => ?_) (fun hs199 => ?_)
    · simp only [nz1, nz2, nz3]
      refine tk 13 96 (.bool true) rfl rfl (fun _ hw => run_pickf rfl rfl rfl) (⟨hm185.at 10 rfl, hm185.at 2 rfl, ((hm185.see 1 rfl)), ((hm185.see 9 rfl).1), ((hm185.see 3 rfl))⟩) ?_
      simp only [nz1, nz2, nz3]
      refine tk 14 97 (.bool true) rfl rfl (fun _ hw => run_mv rfl rfl) (⟨hm185.at 10 rfl, hm185.at 2 rfl, ((hm185.see 1 rfl)), ((hm185.see 9 rfl).1), ((hm185.see 3 rfl))⟩) ?_
      simp only [nz1, nz2, nz3]
      refine skx 15 98 rfl rfl rfl (⟨hm185.at 10 rfl, hm185.at 2 rfl, ((hm185.see 1 rfl)), ((hm185.see 9 rfl).1), ((hm185.see 3 rfl))⟩) ?_
      simp only [nz1, nz2, nz3]
      refine skx 16 99 rfl rfl rfl (⟨hm185.at 10 rfl, hm185.at 2 rfl, ((hm185.see 1 rfl)), ((hm185.see 9 rfl).1), ((hm185.see 3 rfl))⟩) ?_
      simp only [nz1, nz2, nz3]
      refine skx 17 100 rfl rfl rfl (⟨hm185.at 10 rfl, hm185.at 2 rfl, ((hm185.see 1 rfl)), ((hm185.see 9 rfl).1), ((hm185.see 3 rfl))⟩) ?_
      simp only [nz1, nz2, nz3]
      refine skx 18 101 rfl rfl rfl (⟨hm185.at 10 rfl, hm185.at 2 rfl, ((hm185.see 1 rfl)), ((hm185.see 9 rfl).1), ((hm185.see 3 rfl))⟩) ?_
      simp only [nz1, nz2, nz3]
      refine skx 19 102 rfl rfl rfl (⟨hm185.at 10 rfl, hm185.at 2 rfl, ((hm185.see 1 rfl)), ((hm185.see 9 rfl).1), ((hm185.see 3 rfl))⟩) ?_
      simp only [nz1, nz2, nz3]
      refine skx 20 103 rfl rfl rfl (⟨hm185.at 10 rfl, hm185.at 2 rfl, ((hm185.see 1 rfl)), ((hm185.see 9 rfl).1), ((hm185.see 3 rfl))⟩) ?_
      simp only [nz1, nz2, nz3]
      refine skx 21 104 rfl rfl rfl (⟨hm185.at 10 rfl, hm185.at 2 rfl, ((hm185.see 1 rfl)), ((hm185.see 9 rfl).1), ((hm185.see 3 rfl))⟩) ?_
      simp only [nz1, nz2, nz3]
      refine tk 22 105 (.bool true) rfl rfl (fun _ hw => run_pick rfl rfl rfl) (⟨hm185.at 10 rfl, hm185.at 2 rfl, ((hm185.see 1 rfl)), ((hm185.see 9 rfl).1), ((hm185.see 3 rfl))⟩) ?_
      simp only [nz1, nz2, nz3]
      refine tk 23 106 (.bool true) rfl rfl (fun _ hw => run_mv rfl rfl) (⟨hm185.at 10 rfl, hm185.at 2 rfl, ((hm185.see 1 rfl)), ((hm185.see 9 rfl).1), ((hm185.see 3 rfl))⟩) ?_
      simp only [nz1, nz2, nz3]
      refine skx 24 107 rfl rfl rfl (⟨hm185.at 10 rfl, hm185.at 2 rfl, ((hm185.see 1 rfl)), ((hm185.see 9 rfl).1), ((hm185.see 3 rfl))⟩) ?_
      simp only [nz1, nz2, nz3]
      refine skx 25 108 rfl rfl rfl (⟨hm185.at 10 rfl, hm185.at 2 rfl, ((hm185.see 1 rfl)), ((hm185.see 9 rfl).1), ((hm185.see 3 rfl))⟩) ?_
      simp only [nz1, nz2, nz3]
      refine skx 26 109 rfl rfl rfl (⟨hm185.at 10 rfl, hm185.at 2 rfl, ((hm185.see 1 rfl)), ((hm185.see 9 rfl).1), ((hm185.see 3 rfl))⟩) ?_
      simp only [nz1, nz2, nz3]
      refine skx 27 110 rfl rfl rfl (⟨hm185.at 10 rfl, hm185.at 2 rfl, ((hm185.see 1 rfl)), ((hm185.see 9 rfl).1), ((hm185.see 3 rfl))⟩) ?_
      simp only [nz1, nz2, nz3]
      refine skx 28 111 rfl rfl rfl (⟨hm185.at 10 rfl, hm185.at 2 rfl, ((hm185.see 1 rfl)), ((hm185.see 9 rfl).1), ((hm185.see 3 rfl))⟩) ?_
      simp only [nz1, nz2, nz3]
      refine skx 29 112 rfl rfl rfl (⟨hm185.at 10 rfl, hm185.at 2 rfl, ((hm185.see 1 rfl)), ((hm185.see 9 rfl).1), ((hm185.see 3 rfl))⟩) ?_
      simp only [nz1, nz2, nz3]
      refine skx 30 113 rfl rfl rfl (⟨hm185.at 10 rfl, hm185.at 2 rfl, ((hm185.see 1 rfl)), ((hm185.see 9 rfl).1), ((hm185.see 3 rfl))⟩) ?_
      simp only [nz1, nz2, nz3]
      refine tk 31 114 (.bool true) rfl rfl (fun _ hw => run_pick rfl rfl rfl) (⟨hm185.at 10 rfl, hm185.at 2 rfl, ((hm185.see 1 rfl)), ((hm185.see 9 rfl).1), ((hm185.see 3 rfl))⟩) ?_
      simp only [nz1, nz2, nz3]
      refine tk 32 115 (.bool true) rfl rfl (fun _ hw => run_mv rfl rfl) (⟨hm185.at 10 rfl, hm185.at 2 rfl, ((hm185.see 1 rfl)), ((hm185.see 9 rfl).1), ((hm185.see 3 rfl))⟩) ?_
      simp only [nz1, nz2, nz3]
      refine skx 33 116 rfl rfl rfl (⟨hm185.at 10 rfl, hm185.at 2 rfl, ((hm185.see 1 rfl)), ((hm185.see 9 rfl).1), ((hm185.see 3 rfl))⟩) ?_
      simp only [nz1, nz2, nz3]
      refine skx 34 117 rfl rfl rfl (⟨hm185.at 10 rfl, hm185.at 2 rfl, ((hm185.see 1 rfl)), ((hm185.see 9 rfl).1), ((hm185.see 3 rfl))⟩) ?_
      simp only [nz1, nz2, nz3]
      refine skx 35 118 rfl rfl rfl (⟨hm185.at 10 rfl, hm185.at 2 rfl, ((hm185.see 1 rfl)), ((hm185.see 9 rfl).1), ((hm185.see 3 rfl))⟩) ?_
      simp only [nz1, nz2, nz3]
      refine skx 36 119 rfl rfl rfl (⟨hm185.at 10 rfl, hm185.at 2 rfl, ((hm185.see 1 rfl)), ((hm185.see 9 rfl).1), ((hm185.see 3 rfl))⟩) ?_
      simp only [nz1, nz2, nz3]
      refine skx 37 120 rfl rfl rfl (⟨hm185.at 10 rfl, hm185.at 2 rfl, ((hm185.see 1 rfl)), ((hm185.see 9 rfl).1), ((hm185.see 3 rfl))⟩) ?_
      simp only [nz1, nz2, nz3]
      refine skx 38 121 rfl rfl rfl (⟨hm185.at 10 rfl, hm185.at 2 rfl, ((hm185.see 1 rfl)), ((hm185.see 9 rfl).1), ((hm185.see 3 rfl))⟩) ?_
      simp only [nz1, nz2, nz3]
      refine skx 39 122 rfl rfl rfl (⟨hm185.at 10 rfl, hm185.at 2 rfl, ((hm185.see 1 rfl)), ((hm185.see 9 rfl).1), ((hm185.see 3 rfl))⟩) ?_
      simp only [nz1, nz2, nz3]
      refine skx 40 123 rfl rfl rfl (⟨hm185.at 10 rfl, hm185.at 2 rfl, ((hm185.see 1 rfl)), ((hm185.see 9 rfl).1), ((hm185.see 3 rfl))⟩) ?_
      simp only [nz1, nz2, nz3]
      refine skx 41 124 rfl rfl rfl (⟨hm185.at 10 rfl, hm185.at 2 rfl, ((hm185.see 1 rfl)), ((hm185.see 9 rfl).1), ((hm185.see 3 rfl))⟩) ?_
      simp only [nz1, nz2, nz3]
      refine skx 42 125 rfl rfl rfl (⟨hm185.at 10 rfl, hm185.at 2 rfl, ((hm185.see 1 rfl)), ((hm185.see 9 rfl).1), ((hm185.see 3 rfl))⟩) ?_
      simp only [nz1, nz2, nz3]
      refine skx 43 126 rfl rfl rfl (⟨hm185.at 10 rfl, hm185.at 2 rfl, ((hm185.see 1 rfl)), ((hm185.see 9 rfl).1), ((hm185.see 3 rfl))⟩) ?_
      simp only [nz1, nz2, nz3]
      refine skx 44 127 rfl rfl rfl (⟨hm185.at 10 rfl, hm185.at 2 rfl, ((hm185.see 1 rfl)), ((hm185.see 9 rfl).1), ((hm185.see 3 rfl))⟩) ?_
      simp only [nz1, nz2, nz3]
      refine skx 45 128 rfl rfl rfl (⟨hm185.at 10 rfl, hm185.at 2 rfl, ((hm185.see 1 rfl)), ((hm185.see 9 rfl).1), ((hm185.see 3 rfl))⟩) ?_
      simp only [nz1, nz2, nz3]
      refine skx 46 129 rfl rfl rfl (⟨hm185.at 10 rfl, hm185.at 2 rfl, ((hm185.see 1 rfl)), ((hm185.see 9 rfl).1), ((hm185.see 3 rfl))⟩) ?_
      simp only [nz1, nz2, nz3]
      refine skx 47 130 rfl rfl rfl (⟨hm185.at 10 rfl, hm185.at 2 rfl, ((hm185.see 1 rfl)), ((hm185.see 9 rfl).1), ((hm185.see 3 rfl))⟩) ?_
      simp only [nz1, nz2, nz3]
      refine skx 48 131 rfl rfl rfl (⟨hm185.at 10 rfl, hm185.at 2 rfl, ((hm185.see 1 rfl)), ((hm185.see 9 rfl).1), ((hm185.see 3 rfl))⟩) ?_
      simp only [nz1, nz2, nz3]
      refine skx 49 132 rfl rfl rfl (⟨hm185.at 10 rfl, hm185.at 2 rfl, ((hm185.see 1 rfl)), ((hm185.see 9 rfl).1), ((hm185.see 3 rfl))⟩) ?_
      simp only [nz1, nz2, nz3]
      refine skx 50 133 rfl rfl rfl (⟨hm185.at 10 rfl, hm185.at 2 rfl, ((hm185.see 1 rfl)), ((hm185.see 9 rfl).1), ((hm185.see 3 rfl))⟩) ?_
      simp only [nz1, nz2, nz3]
      refine skx 51 134 rfl rfl rfl (⟨hm185.at 10 rfl, hm185.at 2 rfl, ((hm185.see 1 rfl)), ((hm185.see 9 rfl).1), ((hm185.see 3 rfl))⟩) ?_
      simp only [nz1, nz2, nz3]
      refine tk 52 135 (.bool true) rfl rfl (fun _ hw => run_pick rfl rfl rfl) (⟨hm185.at 10 rfl, hm185.at 2 rfl, ((hm185.see 1 rfl)), ((hm185.see 9 rfl).1), ((hm185.see 3 rfl))⟩) ?_
      simp only [nz1, nz2, nz3]
      refine wpAnyH_done (by kernel_rfl) ?_ _
      refine then_n (hK184 _ _ ?_)
      refine cond_t rfl ?_
      refine wp_seq_k (fun K200 hK200 => ?_)
      refine wp_region_lit ?_
      refine lvw 4 (.bool false) rfl rfl (run_as rfl rfl) ?_
      simp only [nz1, nz2, nz3]
      refine wpList_nil ?_
      refine then_n (hK200 _ _ ?_)
      refine wp_ret ?_
      refine then_r ?_
      refine blk_r ?_
      refine then_r ?_
      refine then_r ?_
      refine blk_r ?_
      refine then_r ?_
      refine then_r ?_
      have he201 : last_m_l0 d l ((l.length - 0) + 1) (0, d.safe, d.loose, -1, d.down) = .inr false := (hi48.trans (show last_m_b0 d l (last_m_l0 d l k47) x29 l30 l34 x38 x39 = .inr false from by unfold last_m_b0; rw [if_pos hc66, if_neg hc123, if_neg hs187, if_neg hs191, if_neg hs195, if_pos hs199] <;> rfl))
      have he202 : last_m d l = false := (show last_m d l = false from by unfold last_m; rw [if_neg hs9, if_neg hs14, if_neg hc19, he201] <;> rfl)
      exact ⟨rfl, .bool false, res_t rfl rfl, ⟨by rw [he202], hm185.below⟩⟩
    simp only [nz1, nz2, nz3]
    refine tk 13 96 (.bool false) rfl rfl (fun _ hw => run_pickf rfl rfl rfl) (⟨hm185.at 10 rfl, hm185.at 2 rfl, ((hm185.see 1 rfl)), ((hm185.see 9 rfl).1), ((hm185.see 3 rfl))⟩) ?_
    simp only [nz1, nz2, nz3]
    refine tk 14 97 (.bool false) rfl rfl (fun _ hw => run_mv rfl rfl) (⟨hm185.at 10 rfl, hm185.at 2 rfl, ((hm185.see 1 rfl)), ((hm185.see 9 rfl).1), ((hm185.see 3 rfl))⟩) ?_
    simp only [nz1, nz2, nz3]
    refine Sym.take_at 15 98 (.string (tx ((get_m ((put_m (Dk.mk l30 l34 x38 x39) ((l.getD x29 dWr).at_) ((l.getD x29 dWr).data)).1) ((l.getD x29 dWr).at_)).1))) rfl rfl (by kernel_rfl) (by kernel_rfl) (by kernel_rfl) (fun _ _ _ h => h) rfl (fun _ hw => run_mv rfl rfl) (⟨hm185.at 10 rfl, hm185.at 2 rfl, ((hm185.see 1 rfl)), ((hm185.see 9 rfl).1), ((hm185.see 3 rfl))⟩) ?_
    simp only [nz1, nz2, nz3]
    refine Sym.take_at 16 99 (lv0) rfl rfl (by kernel_rfl) (by kernel_rfl) (by kernel_rfl) (fun _ _ _ h => h) rfl (fun _ hw => run_mv rfl rfl) (⟨hm185.at 10 rfl, hm185.at 2 rfl, ((hm185.see 1 rfl)), ((hm185.see 9 rfl).1), ((hm185.see 3 rfl))⟩) ?_
    simp only [nz1, nz2, nz3]
    refine Sym.take_at 17 100 (.int .i64 ((x29 : Nat) : Int)) rfl rfl (by kernel_rfl) (by kernel_rfl) (by kernel_rfl) (fun _ _ _ h => h) rfl (fun _ hw => run_mv rfl rfl) (⟨hm185.at 10 rfl, hm185.at 2 rfl, ((hm185.see 1 rfl)), ((hm185.see 9 rfl).1), ((hm185.see 3 rfl))⟩) ?_
    simp only [nz1, nz2, nz3]
    refine Sym.take_at 18 101 (.pointer (some ⟨(bk lv0), (po lv0 + x29 * 2), none⟩)) rfl rfl (by kernel_rfl) (by kernel_rfl) (by kernel_rfl) (fun _ _ _ h => h) rfl (fun _ hw => r_ixv ((hm185.see 1 rfl)) x29 (by omega) Try.underlying23 sz_42 rfl rfl rfl) (⟨hm185.at 10 rfl, hm185.at 2 rfl, ((hm185.see 1 rfl)), ((hm185.see 9 rfl).1), ((hm185.see 3 rfl))⟩) ?_
    simp only [nz1, nz2, nz3]
    refine Sym.take_at 19 102 (.pointer (some ⟨(bk lv0), ((po lv0 + x29 * 2) + 1), none⟩)) rfl rfl (by kernel_rfl) (by kernel_rfl) (by kernel_rfl) (fun _ _ _ h => h) rfl (fun _ hw => r_fa42_1 (bk lv0) (po lv0 + x29 * 2) rfl rfl) (⟨hm185.at 10 rfl, hm185.at 2 rfl, ((hm185.see 1 rfl)), ((hm185.see 9 rfl).1), ((hm185.see 3 rfl))⟩) ?_
    simp only [nz1, nz2, nz3]
    refine Sym.take_at 20 103 (.string (tx ((l.getD x29 dWr).data))) rfl rfl (by kernel_rfl) (by kernel_rfl) (by kernel_rfl) (fun _ _ _ h => h) rfl (fun _ hw => r_cellw (Rs.cell hw.2.2.1 eWr_len dWr x29 (by omega) 1 _ rfl) Try.underlying9 rfl rfl rfl) (⟨hm185.at 10 rfl, hm185.at 2 rfl, ((hm185.see 1 rfl)), ((hm185.see 9 rfl).1), ((hm185.see 3 rfl))⟩) ?_
    simp only [nz1, nz2, nz3]
    refine tkb 21 104 (¬ (get_m ((put_m (Dk.mk l30 l34 x38 x39) ((l.getD x29 dWr).at_) ((l.getD x29 dWr).data)).1) ((l.getD x29 dWr).at_)).1 = (l.getD x29 dWr).data) rfl rfl rfl (fun _ hw => t_neq ((get_m ((put_m (Dk.mk l30 l34 x38 x39) ((l.getD x29 dWr).at_) ((l.getD x29 dWr).data)).1) ((l.getD x29 dWr).at_)).1) ((l.getD x29 dWr).data) rfl rfl rfl) (⟨hm185.at 10 rfl, hm185.at 2 rfl, ((hm185.see 1 rfl)), ((hm185.see 9 rfl).1), ((hm185.see 3 rfl))⟩) (fun hs203 => ?_) (fun hs203 => ?_)
    · simp only [nz1, nz2, nz3]
      refine tk 22 105 (.bool true) rfl rfl (fun _ hw => run_pickf rfl rfl rfl) (⟨hm185.at 10 rfl, hm185.at 2 rfl, ((hm185.see 1 rfl)), ((hm185.see 9 rfl).1), ((hm185.see 3 rfl))⟩) ?_
      simp only [nz1, nz2, nz3]
      refine tk 23 106 (.bool true) rfl rfl (fun _ hw => run_mv rfl rfl) (⟨hm185.at 10 rfl, hm185.at 2 rfl, ((hm185.see 1 rfl)), ((hm185.see 9 rfl).1), ((hm185.see 3 rfl))⟩) ?_
      simp only [nz1, nz2, nz3]
      refine skx 24 107 rfl rfl rfl (⟨hm185.at 10 rfl, hm185.at 2 rfl, ((hm185.see 1 rfl)), ((hm185.see 9 rfl).1), ((hm185.see 3 rfl))⟩) ?_
      simp only [nz1, nz2, nz3]
      refine skx 25 108 rfl rfl rfl (⟨hm185.at 10 rfl, hm185.at 2 rfl, ((hm185.see 1 rfl)), ((hm185.see 9 rfl).1), ((hm185.see 3 rfl))⟩) ?_
      simp only [nz1, nz2, nz3]
      refine skx 26 109 rfl rfl rfl (⟨hm185.at 10 rfl, hm185.at 2 rfl, ((hm185.see 1 rfl)), ((hm185.see 9 rfl).1), ((hm185.see 3 rfl))⟩) ?_
      simp only [nz1, nz2, nz3]
      refine skx 27 110 rfl rfl rfl (⟨hm185.at 10 rfl, hm185.at 2 rfl, ((hm185.see 1 rfl)), ((hm185.see 9 rfl).1), ((hm185.see 3 rfl))⟩) ?_
      simp only [nz1, nz2, nz3]
      refine skx 28 111 rfl rfl rfl (⟨hm185.at 10 rfl, hm185.at 2 rfl, ((hm185.see 1 rfl)), ((hm185.see 9 rfl).1), ((hm185.see 3 rfl))⟩) ?_
      simp only [nz1, nz2, nz3]
      refine skx 29 112 rfl rfl rfl (⟨hm185.at 10 rfl, hm185.at 2 rfl, ((hm185.see 1 rfl)), ((hm185.see 9 rfl).1), ((hm185.see 3 rfl))⟩) ?_
      simp only [nz1, nz2, nz3]
      refine skx 30 113 rfl rfl rfl (⟨hm185.at 10 rfl, hm185.at 2 rfl, ((hm185.see 1 rfl)), ((hm185.see 9 rfl).1), ((hm185.see 3 rfl))⟩) ?_
      simp only [nz1, nz2, nz3]
      refine tk 31 114 (.bool true) rfl rfl (fun _ hw => run_pick rfl rfl rfl) (⟨hm185.at 10 rfl, hm185.at 2 rfl, ((hm185.see 1 rfl)), ((hm185.see 9 rfl).1), ((hm185.see 3 rfl))⟩) ?_
      simp only [nz1, nz2, nz3]
      refine tk 32 115 (.bool true) rfl rfl (fun _ hw => run_mv rfl rfl) (⟨hm185.at 10 rfl, hm185.at 2 rfl, ((hm185.see 1 rfl)), ((hm185.see 9 rfl).1), ((hm185.see 3 rfl))⟩) ?_
      simp only [nz1, nz2, nz3]
      refine skx 33 116 rfl rfl rfl (⟨hm185.at 10 rfl, hm185.at 2 rfl, ((hm185.see 1 rfl)), ((hm185.see 9 rfl).1), ((hm185.see 3 rfl))⟩) ?_
      simp only [nz1, nz2, nz3]
      refine skx 34 117 rfl rfl rfl (⟨hm185.at 10 rfl, hm185.at 2 rfl, ((hm185.see 1 rfl)), ((hm185.see 9 rfl).1), ((hm185.see 3 rfl))⟩) ?_
      simp only [nz1, nz2, nz3]
      refine skx 35 118 rfl rfl rfl (⟨hm185.at 10 rfl, hm185.at 2 rfl, ((hm185.see 1 rfl)), ((hm185.see 9 rfl).1), ((hm185.see 3 rfl))⟩) ?_
      simp only [nz1, nz2, nz3]
      refine skx 36 119 rfl rfl rfl (⟨hm185.at 10 rfl, hm185.at 2 rfl, ((hm185.see 1 rfl)), ((hm185.see 9 rfl).1), ((hm185.see 3 rfl))⟩) ?_
      simp only [nz1, nz2, nz3]
      refine skx 37 120 rfl rfl rfl (⟨hm185.at 10 rfl, hm185.at 2 rfl, ((hm185.see 1 rfl)), ((hm185.see 9 rfl).1), ((hm185.see 3 rfl))⟩) ?_
      simp only [nz1, nz2, nz3]
      refine skx 38 121 rfl rfl rfl (⟨hm185.at 10 rfl, hm185.at 2 rfl, ((hm185.see 1 rfl)), ((hm185.see 9 rfl).1), ((hm185.see 3 rfl))⟩) ?_
      simp only [nz1, nz2, nz3]
      refine skx 39 122 rfl rfl rfl (⟨hm185.at 10 rfl, hm185.at 2 rfl, ((hm185.see 1 rfl)), ((hm185.see 9 rfl).1), ((hm185.see 3 rfl))⟩) ?_
      simp only [nz1, nz2, nz3]
      refine skx 40 123 rfl rfl rfl (⟨hm185.at 10 rfl, hm185.at 2 rfl, ((hm185.see 1 rfl)), ((hm185.see 9 rfl).1), ((hm185.see 3 rfl))⟩) ?_
      simp only [nz1, nz2, nz3]
      refine skx 41 124 rfl rfl rfl (⟨hm185.at 10 rfl, hm185.at 2 rfl, ((hm185.see 1 rfl)), ((hm185.see 9 rfl).1), ((hm185.see 3 rfl))⟩) ?_
      simp only [nz1, nz2, nz3]
      refine skx 42 125 rfl rfl rfl (⟨hm185.at 10 rfl, hm185.at 2 rfl, ((hm185.see 1 rfl)), ((hm185.see 9 rfl).1), ((hm185.see 3 rfl))⟩) ?_
      simp only [nz1, nz2, nz3]
      refine skx 43 126 rfl rfl rfl (⟨hm185.at 10 rfl, hm185.at 2 rfl, ((hm185.see 1 rfl)), ((hm185.see 9 rfl).1), ((hm185.see 3 rfl))⟩) ?_
      simp only [nz1, nz2, nz3]
      refine skx 44 127 rfl rfl rfl (⟨hm185.at 10 rfl, hm185.at 2 rfl, ((hm185.see 1 rfl)), ((hm185.see 9 rfl).1), ((hm185.see 3 rfl))⟩) ?_
      simp only [nz1, nz2, nz3]
      refine skx 45 128 rfl rfl rfl (⟨hm185.at 10 rfl, hm185.at 2 rfl, ((hm185.see 1 rfl)), ((hm185.see 9 rfl).1), ((hm185.see 3 rfl))⟩) ?_
      simp only [nz1, nz2, nz3]
      refine skx 46 129 rfl rfl rfl (⟨hm185.at 10 rfl, hm185.at 2 rfl, ((hm185.see 1 rfl)), ((hm185.see 9 rfl).1), ((hm185.see 3 rfl))⟩) ?_
      simp only [nz1, nz2, nz3]
      refine skx 47 130 rfl rfl rfl (⟨hm185.at 10 rfl, hm185.at 2 rfl, ((hm185.see 1 rfl)), ((hm185.see 9 rfl).1), ((hm185.see 3 rfl))⟩) ?_
      simp only [nz1, nz2, nz3]
      refine skx 48 131 rfl rfl rfl (⟨hm185.at 10 rfl, hm185.at 2 rfl, ((hm185.see 1 rfl)), ((hm185.see 9 rfl).1), ((hm185.see 3 rfl))⟩) ?_
      simp only [nz1, nz2, nz3]
      refine skx 49 132 rfl rfl rfl (⟨hm185.at 10 rfl, hm185.at 2 rfl, ((hm185.see 1 rfl)), ((hm185.see 9 rfl).1), ((hm185.see 3 rfl))⟩) ?_
      simp only [nz1, nz2, nz3]
      refine skx 50 133 rfl rfl rfl (⟨hm185.at 10 rfl, hm185.at 2 rfl, ((hm185.see 1 rfl)), ((hm185.see 9 rfl).1), ((hm185.see 3 rfl))⟩) ?_
      simp only [nz1, nz2, nz3]
      refine skx 51 134 rfl rfl rfl (⟨hm185.at 10 rfl, hm185.at 2 rfl, ((hm185.see 1 rfl)), ((hm185.see 9 rfl).1), ((hm185.see 3 rfl))⟩) ?_
      simp only [nz1, nz2, nz3]
      refine tk 52 135 (.bool true) rfl rfl (fun _ hw => run_pick rfl rfl rfl) (⟨hm185.at 10 rfl, hm185.at 2 rfl, ((hm185.see 1 rfl)), ((hm185.see 9 rfl).1), ((hm185.see 3 rfl))⟩) ?_
      simp only [nz1, nz2, nz3]
      refine wpAnyH_done (by kernel_rfl) ?_ _
      refine then_n (hK184 _ _ ?_)
      refine cond_t rfl ?_
      refine wp_seq_k (fun K204 hK204 => ?_)
      refine wp_region_lit ?_
      refine lvw 4 (.bool false) rfl rfl (run_as rfl rfl) ?_
      simp only [nz1, nz2, nz3]
      refine wpList_nil ?_
      refine then_n (hK204 _ _ ?_)
      refine wp_ret ?_
      refine then_r ?_
      refine blk_r ?_
      refine then_r ?_
      refine then_r ?_
      refine blk_r ?_
      refine then_r ?_
      refine then_r ?_
      have he205 : last_m_l0 d l ((l.length - 0) + 1) (0, d.safe, d.loose, -1, d.down) = .inr false := (hi48.trans (show last_m_b0 d l (last_m_l0 d l k47) x29 l30 l34 x38 x39 = .inr false from by unfold last_m_b0; rw [if_pos hc66, if_neg hc123, if_neg hs187, if_neg hs191, if_neg hs195, if_neg hs199, if_pos hs203] <;> rfl))
      have he206 : last_m d l = false := (show last_m d l = false from by unfold last_m; rw [if_neg hs9, if_neg hs14, if_neg hc19, he205] <;> rfl)
      exact ⟨rfl, .bool false, res_t rfl rfl, ⟨by rw [he206], hm185.below⟩⟩
    simp only [nz1, nz2, nz3]
    refine tk 22 105 (.bool false) rfl rfl (fun _ hw => run_pickf rfl rfl rfl) (⟨hm185.at 10 rfl, hm185.at 2 rfl, ((hm185.see 1 rfl)), ((hm185.see 9 rfl).1), ((hm185.see 3 rfl))⟩) ?_
    simp only [nz1, nz2, nz3]
    refine tk 23 106 (.bool false) rfl rfl (fun _ hw => run_mv rfl rfl) (⟨hm185.at 10 rfl, hm185.at 2 rfl, ((hm185.see 1 rfl)), ((hm185.see 9 rfl).1), ((hm185.see 3 rfl))⟩) ?_
    simp only [nz1, nz2, nz3]
    refine Sym.take_at 24 107 (.string (tx ((get_m ((flush_m ((put_m (Dk.mk l30 l34 x38 x39) ((l.getD x29 dWr).at_) ((l.getD x29 dWr).data)).1)).1) ((l.getD x29 dWr).at_)).1))) rfl rfl (by kernel_rfl) (by kernel_rfl) (by kernel_rfl) (fun _ _ _ h => h) rfl (fun _ hw => run_mv rfl rfl) (⟨hm185.at 10 rfl, hm185.at 2 rfl, ((hm185.see 1 rfl)), ((hm185.see 9 rfl).1), ((hm185.see 3 rfl))⟩) ?_
    simp only [nz1, nz2, nz3]
    refine Sym.take_at 25 108 (lv0) rfl rfl (by kernel_rfl) (by kernel_rfl) (by kernel_rfl) (fun _ _ _ h => h) rfl (fun _ hw => run_mv rfl rfl) (⟨hm185.at 10 rfl, hm185.at 2 rfl, ((hm185.see 1 rfl)), ((hm185.see 9 rfl).1), ((hm185.see 3 rfl))⟩) ?_
    simp only [nz1, nz2, nz3]
    refine Sym.take_at 26 109 (.int .i64 ((x29 : Nat) : Int)) rfl rfl (by kernel_rfl) (by kernel_rfl) (by kernel_rfl) (fun _ _ _ h => h) rfl (fun _ hw => run_mv rfl rfl) (⟨hm185.at 10 rfl, hm185.at 2 rfl, ((hm185.see 1 rfl)), ((hm185.see 9 rfl).1), ((hm185.see 3 rfl))⟩) ?_
    simp only [nz1, nz2, nz3]
    refine Sym.take_at 27 110 (.pointer (some ⟨(bk lv0), (po lv0 + x29 * 2), none⟩)) rfl rfl (by kernel_rfl) (by kernel_rfl) (by kernel_rfl) (fun _ _ _ h => h) rfl (fun _ hw => r_ixv ((hm185.see 1 rfl)) x29 (by omega) Try.underlying23 sz_42 rfl rfl rfl) (⟨hm185.at 10 rfl, hm185.at 2 rfl, ((hm185.see 1 rfl)), ((hm185.see 9 rfl).1), ((hm185.see 3 rfl))⟩) ?_
    simp only [nz1, nz2, nz3]
    refine Sym.take_at 28 111 (.pointer (some ⟨(bk lv0), ((po lv0 + x29 * 2) + 1), none⟩)) rfl rfl (by kernel_rfl) (by kernel_rfl) (by kernel_rfl) (fun _ _ _ h => h) rfl (fun _ hw => r_fa42_1 (bk lv0) (po lv0 + x29 * 2) rfl rfl) (⟨hm185.at 10 rfl, hm185.at 2 rfl, ((hm185.see 1 rfl)), ((hm185.see 9 rfl).1), ((hm185.see 3 rfl))⟩) ?_
    simp only [nz1, nz2, nz3]
    refine Sym.take_at 29 112 (.string (tx ((l.getD x29 dWr).data))) rfl rfl (by kernel_rfl) (by kernel_rfl) (by kernel_rfl) (fun _ _ _ h => h) rfl (fun _ hw => r_cellw (Rs.cell hw.2.2.1 eWr_len dWr x29 (by omega) 1 _ rfl) Try.underlying9 rfl rfl rfl) (⟨hm185.at 10 rfl, hm185.at 2 rfl, ((hm185.see 1 rfl)), ((hm185.see 9 rfl).1), ((hm185.see 3 rfl))⟩) ?_
    simp only [nz1, nz2, nz3]
    refine tkb 30 113 (¬ (get_m ((flush_m ((put_m (Dk.mk l30 l34 x38 x39) ((l.getD x29 dWr).at_) ((l.getD x29 dWr).data)).1)).1) ((l.getD x29 dWr).at_)).1 = (l.getD x29 dWr).data) rfl rfl rfl (fun _ hw => t_neq ((get_m ((flush_m ((put_m (Dk.mk l30 l34 x38 x39) ((l.getD x29 dWr).at_) ((l.getD x29 dWr).data)).1)).1) ((l.getD x29 dWr).at_)).1) ((l.getD x29 dWr).data) rfl rfl rfl) (⟨hm185.at 10 rfl, hm185.at 2 rfl, ((hm185.see 1 rfl)), ((hm185.see 9 rfl).1), ((hm185.see 3 rfl))⟩) (fun hs207 => ?_) (fun hs207 => ?_)
    · simp only [nz1, nz2, nz3]
      refine tk 31 114 (.bool true) rfl rfl (fun _ hw => run_pickf rfl rfl rfl) (⟨hm185.at 10 rfl, hm185.at 2 rfl, ((hm185.see 1 rfl)), ((hm185.see 9 rfl).1), ((hm185.see 3 rfl))⟩) ?_
      simp only [nz1, nz2, nz3]
      refine tk 32 115 (.bool true) rfl rfl (fun _ hw => run_mv rfl rfl) (⟨hm185.at 10 rfl, hm185.at 2 rfl, ((hm185.see 1 rfl)), ((hm185.see 9 rfl).1), ((hm185.see 3 rfl))⟩) ?_
      simp only [nz1, nz2, nz3]
      refine skx 33 116 rfl rfl rfl (⟨hm185.at 10 rfl, hm185.at 2 rfl, ((hm185.see 1 rfl)), ((hm185.see 9 rfl).1), ((hm185.see 3 rfl))⟩) ?_
      simp only [nz1, nz2, nz3]
      refine skx 34 117 rfl rfl rfl (⟨hm185.at 10 rfl, hm185.at 2 rfl, ((hm185.see 1 rfl)), ((hm185.see 9 rfl).1), ((hm185.see 3 rfl))⟩) ?_
      simp only [nz1, nz2, nz3]
      refine skx 35 118 rfl rfl rfl (⟨hm185.at 10 rfl, hm185.at 2 rfl, ((hm185.see 1 rfl)), ((hm185.see 9 rfl).1), ((hm185.see 3 rfl))⟩) ?_
      simp only [nz1, nz2, nz3]
      refine skx 36 119 rfl rfl rfl (⟨hm185.at 10 rfl, hm185.at 2 rfl, ((hm185.see 1 rfl)), ((hm185.see 9 rfl).1), ((hm185.see 3 rfl))⟩) ?_
      simp only [nz1, nz2, nz3]
      refine skx 37 120 rfl rfl rfl (⟨hm185.at 10 rfl, hm185.at 2 rfl, ((hm185.see 1 rfl)), ((hm185.see 9 rfl).1), ((hm185.see 3 rfl))⟩) ?_
      simp only [nz1, nz2, nz3]
      refine skx 38 121 rfl rfl rfl (⟨hm185.at 10 rfl, hm185.at 2 rfl, ((hm185.see 1 rfl)), ((hm185.see 9 rfl).1), ((hm185.see 3 rfl))⟩) ?_
      simp only [nz1, nz2, nz3]
      refine skx 39 122 rfl rfl rfl (⟨hm185.at 10 rfl, hm185.at 2 rfl, ((hm185.see 1 rfl)), ((hm185.see 9 rfl).1), ((hm185.see 3 rfl))⟩) ?_
      simp only [nz1, nz2, nz3]
      refine skx 40 123 rfl rfl rfl (⟨hm185.at 10 rfl, hm185.at 2 rfl, ((hm185.see 1 rfl)), ((hm185.see 9 rfl).1), ((hm185.see 3 rfl))⟩) ?_
      simp only [nz1, nz2, nz3]
      refine skx 41 124 rfl rfl rfl (⟨hm185.at 10 rfl, hm185.at 2 rfl, ((hm185.see 1 rfl)), ((hm185.see 9 rfl).1), ((hm185.see 3 rfl))⟩) ?_
      simp only [nz1, nz2, nz3]
      refine skx 42 125 rfl rfl rfl (⟨hm185.at 10 rfl, hm185.at 2 rfl, ((hm185.see 1 rfl)), ((hm185.see 9 rfl).1), ((hm185.see 3 rfl))⟩) ?_
      simp only [nz1, nz2, nz3]
      refine skx 43 126 rfl rfl rfl (⟨hm185.at 10 rfl, hm185.at 2 rfl, ((hm185.see 1 rfl)), ((hm185.see 9 rfl).1), ((hm185.see 3 rfl))⟩) ?_
      simp only [nz1, nz2, nz3]
      refine skx 44 127 rfl rfl rfl (⟨hm185.at 10 rfl, hm185.at 2 rfl, ((hm185.see 1 rfl)), ((hm185.see 9 rfl).1), ((hm185.see 3 rfl))⟩) ?_
      simp only [nz1, nz2, nz3]
      refine skx 45 128 rfl rfl rfl (⟨hm185.at 10 rfl, hm185.at 2 rfl, ((hm185.see 1 rfl)), ((hm185.see 9 rfl).1), ((hm185.see 3 rfl))⟩) ?_
      simp only [nz1, nz2, nz3]
      refine skx 46 129 rfl rfl rfl (⟨hm185.at 10 rfl, hm185.at 2 rfl, ((hm185.see 1 rfl)), ((hm185.see 9 rfl).1), ((hm185.see 3 rfl))⟩) ?_
      simp only [nz1, nz2, nz3]
      refine skx 47 130 rfl rfl rfl (⟨hm185.at 10 rfl, hm185.at 2 rfl, ((hm185.see 1 rfl)), ((hm185.see 9 rfl).1), ((hm185.see 3 rfl))⟩) ?_
      simp only [nz1, nz2, nz3]
      refine skx 48 131 rfl rfl rfl (⟨hm185.at 10 rfl, hm185.at 2 rfl, ((hm185.see 1 rfl)), ((hm185.see 9 rfl).1), ((hm185.see 3 rfl))⟩) ?_
      simp only [nz1, nz2, nz3]
      refine skx 49 132 rfl rfl rfl (⟨hm185.at 10 rfl, hm185.at 2 rfl, ((hm185.see 1 rfl)), ((hm185.see 9 rfl).1), ((hm185.see 3 rfl))⟩) ?_
      simp only [nz1, nz2, nz3]
      refine skx 50 133 rfl rfl rfl (⟨hm185.at 10 rfl, hm185.at 2 rfl, ((hm185.see 1 rfl)), ((hm185.see 9 rfl).1), ((hm185.see 3 rfl))⟩) ?_
      simp only [nz1, nz2, nz3]
      refine skx 51 134 rfl rfl rfl (⟨hm185.at 10 rfl, hm185.at 2 rfl, ((hm185.see 1 rfl)), ((hm185.see 9 rfl).1), ((hm185.see 3 rfl))⟩) ?_
      simp only [nz1, nz2, nz3]
      refine tk 52 135 (.bool true) rfl rfl (fun _ hw => run_pick rfl rfl rfl) (⟨hm185.at 10 rfl, hm185.at 2 rfl, ((hm185.see 1 rfl)), ((hm185.see 9 rfl).1), ((hm185.see 3 rfl))⟩) ?_
      simp only [nz1, nz2, nz3]
      refine wpAnyH_done (by kernel_rfl) ?_ _
      refine then_n (hK184 _ _ ?_)
      refine cond_t rfl ?_
      refine wp_seq_k (fun K208 hK208 => ?_)
      refine wp_region_lit ?_
      refine lvw 4 (.bool false) rfl rfl (run_as rfl rfl) ?_
      simp only [nz1, nz2, nz3]
      refine wpList_nil ?_
      refine then_n (hK208 _ _ ?_)
      refine wp_ret ?_
      refine then_r ?_
      refine blk_r ?_
      refine then_r ?_
      refine then_r ?_
      refine blk_r ?_
      refine then_r ?_
      refine then_r ?_
      have he209 : last_m_l0 d l ((l.length - 0) + 1) (0, d.safe, d.loose, -1, d.down) = .inr false := (hi48.trans (show last_m_b0 d l (last_m_l0 d l k47) x29 l30 l34 x38 x39 = .inr false from by unfold last_m_b0; rw [if_pos hc66, if_neg hc123, if_neg hs187, if_neg hs191, if_neg hs195, if_neg hs199, if_neg hs203, if_pos hs207] <;> rfl))
      have he210 : last_m d l = false := (show last_m d l = false from by unfold last_m; rw [if_neg hs9, if_neg hs14, if_neg hc19, he209] <;> rfl)
      exact ⟨rfl, .bool false, res_t rfl rfl, ⟨by rw [he210], hm185.below⟩⟩
    simp only [nz1, nz2, nz3]
    refine tk 31 114 (.bool false) rfl rfl (fun _ hw => run_pickf rfl rfl rfl) (⟨hm185.at 10 rfl, hm185.at 2 rfl, ((hm185.see 1 rfl)), ((hm185.see 9 rfl).1), ((hm185.see 3 rfl))⟩) ?_
    simp only [nz1, nz2, nz3]
    refine tk 32 115 (.bool false) rfl rfl (fun _ hw => run_mv rfl rfl) (⟨hm185.at 10 rfl, hm185.at 2 rfl, ((hm185.see 1 rfl)), ((hm185.see 9 rfl).1), ((hm185.see 3 rfl))⟩) ?_
    simp only [nz1, nz2, nz3]
    refine Sym.take_at 33 116 (.pointer (some ⟨g178, 0, none⟩)) rfl rfl (by kernel_rfl) (by kernel_rfl) (by kernel_rfl) (fun _ _ _ h => h) rfl (fun _ hw => r_fa25_0 g178 0 rfl rfl) (⟨hm185.at 10 rfl, hm185.at 2 rfl, ((hm185.see 1 rfl)), ((hm185.see 9 rfl).1), ((hm185.see 3 rfl))⟩) ?_
    simp only [nz1, nz2, nz3]
    refine Sym.take_at 34 117 (v165) rfl rfl (by kernel_rfl) (by kernel_rfl) (by kernel_rfl) (fun _ _ _ h => h) rfl (fun _ hw => r_load hw.1 rfl Try.underlying22 rfl rfl rfl) (⟨hm185.at 10 rfl, hm185.at 2 rfl, ((hm185.see 1 rfl)), ((hm185.see 9 rfl).1), ((hm185.see 3 rfl))⟩) ?_
    simp only [nz1, nz2, nz3]
    refine Sym.take_at 35 118 (lv0) rfl rfl (by kernel_rfl) (by kernel_rfl) (by kernel_rfl) (fun _ _ _ h => h) rfl (fun _ hw => run_mv rfl rfl) (⟨hm185.at 10 rfl, hm185.at 2 rfl, ((hm185.see 1 rfl)), ((hm185.see 9 rfl).1), ((hm185.see 3 rfl))⟩) ?_
    simp only [nz1, nz2, nz3]
    refine Sym.take_at 36 119 (.int .i64 ((x29 : Nat) : Int)) rfl rfl (by kernel_rfl) (by kernel_rfl) (by kernel_rfl) (fun _ _ _ h => h) rfl (fun _ hw => run_mv rfl rfl) (⟨hm185.at 10 rfl, hm185.at 2 rfl, ((hm185.see 1 rfl)), ((hm185.see 9 rfl).1), ((hm185.see 3 rfl))⟩) ?_
    simp only [nz1, nz2, nz3]
    refine Sym.take_at 37 120 (.pointer (some ⟨(bk lv0), (po lv0 + x29 * 2), none⟩)) rfl rfl (by kernel_rfl) (by kernel_rfl) (by kernel_rfl) (fun _ _ _ h => h) rfl (fun _ hw => r_ixv ((hm185.see 1 rfl)) x29 (by omega) Try.underlying23 sz_42 rfl rfl rfl) (⟨hm185.at 10 rfl, hm185.at 2 rfl, ((hm185.see 1 rfl)), ((hm185.see 9 rfl).1), ((hm185.see 3 rfl))⟩) ?_
    simp only [nz1, nz2, nz3]
    refine Sym.take_at 38 121 (.pointer (some ⟨(bk lv0), ((po lv0 + x29 * 2) + 0), none⟩)) rfl rfl (by kernel_rfl) (by kernel_rfl) (by kernel_rfl) (fun _ _ _ h => h) rfl (fun _ hw => r_fa42_0 (bk lv0) (po lv0 + x29 * 2) rfl rfl) (⟨hm185.at 10 rfl, hm185.at 2 rfl, ((hm185.see 1 rfl)), ((hm185.see 9 rfl).1), ((hm185.see 3 rfl))⟩) ?_
    simp only [nz1, nz2, nz3]
    refine Sym.take_at 39 122 (.int .i64 ((l.getD x29 dWr).at_)) rfl rfl (by kernel_rfl) (by kernel_rfl) (by kernel_rfl) (fun _ _ _ h => h) rfl (fun _ hw => r_cellw (Rs.cell hw.2.2.1 eWr_len dWr x29 (by omega) 0 _ rfl) Try.underlying3 rfl rfl rfl) (⟨hm185.at 10 rfl, hm185.at 2 rfl, ((hm185.see 1 rfl)), ((hm185.see 9 rfl).1), ((hm185.see 3 rfl))⟩) ?_
    simp only [nz1, nz2, nz3]
    refine Sym.take_at 40 123 (.pointer (some ⟨(bk v165), (po v165 + ((l.getD x29 dWr).at_).toNat * 1), none⟩)) rfl rfl (by kernel_rfl) (by kernel_rfl) (by kernel_rfl) (fun _ _ _ h => h) rfl (fun _ hw => r_ixvZ ((hm185.see 9 rfl).1) ((l.getD x29 dWr).at_) (by omega) (by omega) Try.underlying22 sz_9 rfl rfl rfl) (⟨hm185.at 10 rfl, hm185.at 2 rfl, ((hm185.see 1 rfl)), ((hm185.see 9 rfl).1), ((hm185.see 3 rfl))⟩) ?_
    simp only [nz1, nz2, nz3]
    refine Sym.take_at 41 124 (.string (tx ((((crash_m ((put_m (Dk.mk l30 l34 x38 x39) ((l.getD x29 dWr).at_) ((l.getD x29 dWr).data)).1) ([] : List UInt8) (-1)).1).safe).getD (((l.getD x29 dWr).at_).toNat) []))) rfl rfl (by kernel_rfl) (by kernel_rfl) (by kernel_rfl) (fun _ _ _ h => h) rfl (fun _ hw => r_cellw (Rs.cell hw.2.2.2.1 eS_len [] (((l.getD x29 dWr).at_).toNat) (by omega) 0 _ rfl) Try.underlying9 rfl rfl rfl) (⟨hm185.at 10 rfl, hm185.at 2 rfl, ((hm185.see 1 rfl)), ((hm185.see 9 rfl).1), ((hm185.see 3 rfl))⟩) ?_
    simp only [nz1, nz2, nz3]
    refine Sym.take_at 42 125 (.pointer (some ⟨g4, 0, none⟩)) rfl rfl (by kernel_rfl) (by kernel_rfl) (by kernel_rfl) (fun _ _ _ h => h) rfl (fun _ hw => r_fa25_0 g4 0 rfl rfl) (⟨hm185.at 10 rfl, hm185.at 2 rfl, ((hm185.see 1 rfl)), ((hm185.see 9 rfl).1), ((hm185.see 3 rfl))⟩) ?_
    simp only [nz1, nz2, nz3]
    refine Sym.take_at 43 126 (v31) rfl rfl (by kernel_rfl) (by kernel_rfl) (by kernel_rfl) (fun _ _ _ h => h) rfl (fun _ hw => r_load hw.2.1 rfl Try.underlying22 rfl rfl rfl) (⟨hm185.at 10 rfl, hm185.at 2 rfl, ((hm185.see 1 rfl)), ((hm185.see 9 rfl).1), ((hm185.see 3 rfl))⟩) ?_
    simp only [nz1, nz2, nz3]
    refine Sym.take_at 44 127 (lv0) rfl rfl (by kernel_rfl) (by kernel_rfl) (by kernel_rfl) (fun _ _ _ h => h) rfl (fun _ hw => run_mv rfl rfl) (⟨hm185.at 10 rfl, hm185.at 2 rfl, ((hm185.see 1 rfl)), ((hm185.see 9 rfl).1), ((hm185.see 3 rfl))⟩) ?_
    simp only [nz1, nz2, nz3]
    refine Sym.take_at 45 128 (.int .i64 ((x29 : Nat) : Int)) rfl rfl (by kernel_rfl) (by kernel_rfl) (by kernel_rfl) (fun _ _ _ h => h) rfl (fun _ hw => run_mv rfl rfl) (⟨hm185.at 10 rfl, hm185.at 2 rfl, ((hm185.see 1 rfl)), ((hm185.see 9 rfl).1), ((hm185.see 3 rfl))⟩) ?_
    simp only [nz1, nz2, nz3]
    refine Sym.take_at 46 129 (.pointer (some ⟨(bk lv0), (po lv0 + x29 * 2), none⟩)) rfl rfl (by kernel_rfl) (by kernel_rfl) (by kernel_rfl) (fun _ _ _ h => h) rfl (fun _ hw => r_ixv ((hm185.see 1 rfl)) x29 (by omega) Try.underlying23 sz_42 rfl rfl rfl) (⟨hm185.at 10 rfl, hm185.at 2 rfl, ((hm185.see 1 rfl)), ((hm185.see 9 rfl).1), ((hm185.see 3 rfl))⟩) ?_
    simp only [nz1, nz2, nz3]
    refine Sym.take_at 47 130 (.pointer (some ⟨(bk lv0), ((po lv0 + x29 * 2) + 0), none⟩)) rfl rfl (by kernel_rfl) (by kernel_rfl) (by kernel_rfl) (fun _ _ _ h => h) rfl (fun _ hw => r_fa42_0 (bk lv0) (po lv0 + x29 * 2) rfl rfl) (⟨hm185.at 10 rfl, hm185.at 2 rfl, ((hm185.see 1 rfl)), ((hm185.see 9 rfl).1), ((hm185.see 3 rfl))⟩) ?_
    simp only [nz1, nz2, nz3]
    refine Sym.take_at 48 131 (.int .i64 ((l.getD x29 dWr).at_)) rfl rfl (by kernel_rfl) (by kernel_rfl) (by kernel_rfl) (fun _ _ _ h => h) rfl (fun _ hw => r_cellw (Rs.cell hw.2.2.1 eWr_len dWr x29 (by omega) 0 _ rfl) Try.underlying3 rfl rfl rfl) (⟨hm185.at 10 rfl, hm185.at 2 rfl, ((hm185.see 1 rfl)), ((hm185.see 9 rfl).1), ((hm185.see 3 rfl))⟩) ?_
    simp only [nz1, nz2, nz3]
    refine Sym.take_at 49 132 (.pointer (some ⟨(bk v31), (po v31 + ((l.getD x29 dWr).at_).toNat * 1), none⟩)) rfl rfl (by kernel_rfl) (by kernel_rfl) (by kernel_rfl) (fun _ _ _ h => h) rfl (fun _ hw => r_ixvZ ((hm185.see 3 rfl)) ((l.getD x29 dWr).at_) (by omega) (by omega) Try.underlying22 sz_9 rfl rfl rfl) (⟨hm185.at 10 rfl, hm185.at 2 rfl, ((hm185.see 1 rfl)), ((hm185.see 9 rfl).1), ((hm185.see 3 rfl))⟩) ?_
    simp only [nz1, nz2, nz3]
    refine Sym.take_at 50 133 (.string (tx (l30.getD (((l.getD x29 dWr).at_).toNat) []))) rfl rfl (by kernel_rfl) (by kernel_rfl) (by kernel_rfl) (fun _ _ _ h => h) rfl (fun _ hw => r_cellw (Rs.cell hw.2.2.2.2 eS_len [] (((l.getD x29 dWr).at_).toNat) (by omega) 0 _ rfl) Try.underlying9 rfl rfl rfl) (⟨hm185.at 10 rfl, hm185.at 2 rfl, ((hm185.see 1 rfl)), ((hm185.see 9 rfl).1), ((hm185.see 3 rfl))⟩) ?_
    simp only [nz1, nz2, nz3]
    refine Sym.take_at 51 134 (.bool (decide (¬ ((((crash_m ((put_m (Dk.mk l30 l34 x38 x39) ((l.getD x29 dWr).at_) ((l.getD x29 dWr).data)).1) ([] : List UInt8) (-1)).1).safe).getD (((l.getD x29 dWr).at_).toNat) []) = (l30.getD (((l.getD x29 dWr).at_).toNat) [])))) rfl rfl (by kernel_rfl) (by kernel_rfl) (by kernel_rfl) (fun _ _ _ h => h) rfl (fun _ hw => t_neq ((((crash_m ((put_m (Dk.mk l30 l34 x38 x39) ((l.getD x29 dWr).at_) ((l.getD x29 dWr).data)).1) ([] : List UInt8) (-1)).1).safe).getD (((l.getD x29 dWr).at_).toNat) []) (l30.getD (((l.getD x29 dWr).at_).toNat) []) rfl rfl rfl) (⟨hm185.at 10 rfl, hm185.at 2 rfl, ((hm185.see 1 rfl)), ((hm185.see 9 rfl).1), ((hm185.see 3 rfl))⟩) ?_
    simp only [nz1, nz2, nz3]
    refine tk 52 135 (.bool (decide (¬ ((((crash_m ((put_m (Dk.mk l30 l34 x38 x39) ((l.getD x29 dWr).at_) ((l.getD x29 dWr).data)).1) ([] : List UInt8) (-1)).1).safe).getD (((l.getD x29 dWr).at_).toNat) []) = (l30.getD (((l.getD x29 dWr).at_).toNat) [])))) rfl rfl (fun _ hw => run_pickf rfl rfl rfl) (⟨hm185.at 10 rfl, hm185.at 2 rfl, ((hm185.see 1 rfl)), ((hm185.see 9 rfl).1), ((hm185.see 3 rfl))⟩) ?_
    simp only [nz1, nz2, nz3]
    refine wpAnyH_done (by kernel_rfl) ?_ _
    refine then_n (hK184 _ _ ?_)
    refine cond_d (¬ ((((crash_m ((put_m (Dk.mk l30 l34 x38 x39) ((l.getD x29 dWr).at_) ((l.getD x29 dWr).data)).1) ([] : List UInt8) (-1)).1).safe).getD (((l.getD x29 dWr).at_).toNat) []) = (l30.getD (((l.getD x29 dWr).at_).toNat) [])) rfl (fun hc211 => ?_) (fun hc211 => ?_)
    · refine wp_seq_k (fun K212 hK212 => ?_)
      refine wp_region_lit ?_
      refine lvw 4 (.bool false) rfl rfl (run_as rfl rfl) ?_
      simp only [nz1, nz2, nz3]
      refine wpList_nil ?_
      refine then_n (hK212 _ _ ?_)
      refine wp_ret ?_
      refine then_r ?_
      refine blk_r ?_
      refine then_r ?_
      refine then_r ?_
      refine blk_r ?_
      refine then_r ?_
      refine then_r ?_
      have he213 : last_m_l0 d l ((l.length - 0) + 1) (0, d.safe, d.loose, -1, d.down) = .inr false := (hi48.trans (show last_m_b0 d l (last_m_l0 d l k47) x29 l30 l34 x38 x39 = .inr false from by unfold last_m_b0; rw [if_pos hc66, if_neg hc123, if_neg hs187, if_neg hs191, if_neg hs195, if_neg hs199, if_neg hs203, if_neg hs207, if_pos hc211] <;> rfl))
      have he214 : last_m d l = false := (show last_m d l = false from by unfold last_m; rw [if_neg hs9, if_neg hs14, if_neg hc19, he213] <;> rfl)
      exact ⟨rfl, .bool false, res_t rfl rfl, ⟨by rw [he214], hm185.below⟩⟩
    refine wp_skip ?_
    refine then_n (hK183 _ _ ?_)
    refine wp_region_lit ?_
    refine lvw 136 (.agg #[v73, v74, .int .i64 (((put_m (Dk.mk l30 l34 x38 x39) ((l.getD x29 dWr).at_) ((l.getD x29 dWr).data)).1).fuse), .bool (((put_m (Dk.mk l30 l34 x38 x39) ((l.getD x29 dWr).at_) ((l.getD x29 dWr).data)).1).down)]) rfl rfl (r_whole (hm185.at 6 rfl) Try.underlying25 rfl (by exact sz_25) rfl rfl) ?_
    simp only [nz1, nz2, nz3]
    have ho217 := (rd_one ((hm185.see 5 rfl).1))
    have ho218 := (rd_one ((hm185.see 5 rfl).2))
    refine lst rfl (m_store 2 25 _ _ 0 (.agg #[v73, v74, .int .i64 (((put_m (Dk.mk l30 l34 x38 x39) ((l.getD x29 dWr).at_) ((l.getD x29 dWr).data)).1).fuse), .bool (((put_m (Dk.mk l30 l34 x38 x39) ((l.getD x29 dWr).at_) ((l.getD x29 dWr).data)).1).down)]) (old := #[v31, v35, .int .i64 (x38), .bool (x39)]) (new := #[v73, v74, .int .i64 (((put_m (Dk.mk l30 l34 x38 x39) ((l.getD x29 dWr).at_) ((l.getD x29 dWr).data)).1).fuse), .bool (((put_m (Dk.mk l30 l34 x38 x39) ((l.getD x29 dWr).at_) ((l.getD x29 dWr).data)).1).down)]) hm185 rfl rfl rfl rfl rfl (by exact sz_25) (show 0 + 4 ≤ 4 from by decide) (by rw [Array.all_eq_true_iff_forall_mem]; intro x hx; simp only [Value.cells, List.mem_toArray, List.mem_cons, List.not_mem_nil, or_false] at hx; rcases hx with rfl | rfl | rfl | rfl <;> first | rfl | assumption) rfl (fun w215 (hm216 : Mm none (fun _ => True) w w215 [.see (DkR d dv0 dv1) Fd, .see (Rs eWr 2 l lv0) Fl, .blk g4 #[v73, v74, .int .i64 (((put_m (Dk.mk l30 l34 x38 x39) ((l.getD x29 dWr).at_) ((l.getD x29 dWr).data)).1).fuse), .bool (((put_m (Dk.mk l30 l34 x38 x39) ((l.getD x29 dWr).at_) ((l.getD x29 dWr).data)).1).down)] 25, .see (Rs eS 1 l30 v31) F32, .see (Rs eWr 2 l34 v35) F36, .see (DkR ((put_m (Dk.mk l30 l34 x38 x39) ((l.getD x29 dWr).at_) ((l.getD x29 dWr).data)).1) v73 v74) F76, .blk g88 #[v73, v74, .int .i64 (((put_m (Dk.mk l30 l34 x38 x39) ((l.getD x29 dWr).at_) ((l.getD x29 dWr).data)).1).fuse), .bool (((put_m (Dk.mk l30 l34 x38 x39) ((l.getD x29 dWr).at_) ((l.getD x29 dWr).data)).1).down)] 25, .see (DkR ((flush_m ((put_m (Dk.mk l30 l34 x38 x39) ((l.getD x29 dWr).at_) ((l.getD x29 dWr).data)).1)).1) v138 v139) F141, .blk g152 #[v138, v139, .int .i64 (((flush_m ((put_m (Dk.mk l30 l34 x38 x39) ((l.getD x29 dWr).at_) ((l.getD x29 dWr).data)).1)).1).fuse), .bool (((flush_m ((put_m (Dk.mk l30 l34 x38 x39) ((l.getD x29 dWr).at_) ((l.getD x29 dWr).data)).1)).1).down)] 25, .see (DkR ((crash_m ((put_m (Dk.mk l30 l34 x38 x39) ((l.getD x29 dWr).at_) ((l.getD x29 dWr).data)).1) ([] : List UInt8) (-1)).1) v165 v166) F168, .blk g178 #[v165, v166, .int .i64 (((crash_m ((put_m (Dk.mk l30 l34 x38 x39) ((l.getD x29 dWr).at_) ((l.getD x29 dWr).data)).1) ([] : List UInt8) (-1)).1).fuse), .bool (((crash_m ((put_m (Dk.mk l30 l34 x38 x39) ((l.getD x29 dWr).at_) ((l.getD x29 dWr).data)).1) ([] : List UInt8) (-1)).1).down)] 25]) => ?_))
    refine wpList_nil ?_
    refine blk_n ?_
    refine then_n (hK67 _ _ ?_)
    refine wp_region_lit ?_
    refine lvw 34 (.int .i64 ((x29 : Nat) : Int)) rfl rfl (run_mv rfl rfl) ?_
    simp only [nz1, nz2, nz3]
    refine lvw 35 (.int .i64 (((x29 + 1) : Nat) : Int)) rfl rfl (r_add x29 1 (show (x29 + 1) < 9223372036854775808 from by omega) rfl rfl rfl) ?_
    simp only [nz1, nz2, nz3]
    refine lvw 5 (.int .i64 (((x29 + 1) : Nat) : Int)) rfl rfl (run_as rfl rfl) ?_
    simp only [nz1, nz2, nz3]
    refine wpList_nil ?_
    obtain ⟨F219, hm220⟩ : ∃ F219, Mm none (fun _ => True) w w215 [.see (DkR d dv0 dv1) Fd, .see (Rs eWr 2 l lv0) Fl, .blk g4 #[v73, v74, .int .i64 (((put_m (Dk.mk l30 l34 x38 x39) ((l.getD x29 dWr).at_) ((l.getD x29 dWr).data)).1).fuse), .bool (((put_m (Dk.mk l30 l34 x38 x39) ((l.getD x29 dWr).at_) ((l.getD x29 dWr).data)).1).down)] 25, .see (Rs eS 1 l30 v31) F32, .see (Rs eWr 2 l34 v35) F36, .see (DkR ((put_m (Dk.mk l30 l34 x38 x39) ((l.getD x29 dWr).at_) ((l.getD x29 dWr).data)).1) v73 v74) F76, .blk g88 #[v73, v74, .int .i64 (((put_m (Dk.mk l30 l34 x38 x39) ((l.getD x29 dWr).at_) ((l.getD x29 dWr).data)).1).fuse), .bool (((put_m (Dk.mk l30 l34 x38 x39) ((l.getD x29 dWr).at_) ((l.getD x29 dWr).data)).1).down)] 25, .see (DkR ((flush_m ((put_m (Dk.mk l30 l34 x38 x39) ((l.getD x29 dWr).at_) ((l.getD x29 dWr).data)).1)).1) v138 v139) F141, .blk g152 #[v138, v139, .int .i64 (((flush_m ((put_m (Dk.mk l30 l34 x38 x39) ((l.getD x29 dWr).at_) ((l.getD x29 dWr).data)).1)).1).fuse), .bool (((flush_m ((put_m (Dk.mk l30 l34 x38 x39) ((l.getD x29 dWr).at_) ((l.getD x29 dWr).data)).1)).1).down)] 25, .see (DkR ((crash_m ((put_m (Dk.mk l30 l34 x38 x39) ((l.getD x29 dWr).at_) ((l.getD x29 dWr).data)).1) ([] : List UInt8) (-1)).1) v165 v166) F168, .blk g178 #[v165, v166, .int .i64 (((crash_m ((put_m (Dk.mk l30 l34 x38 x39) ((l.getD x29 dWr).at_) ((l.getD x29 dWr).data)).1) ([] : List UInt8) (-1)).1).fuse), .bool (((crash_m ((put_m (Dk.mk l30 l34 x38 x39) ((l.getD x29 dWr).at_) ((l.getD x29 dWr).data)).1) ([] : List UInt8) (-1)).1).down)] 25, .see (Rs eS 1 (((put_m (Dk.mk l30 l34 x38 x39) ((l.getD x29 dWr).at_) ((l.getD x29 dWr).data)).1).safe) v73) F219] := hm216.derive ((hm216.from 5 rfl).mono (fun _ h => h.1))
    obtain ⟨F222, hm223⟩ : ∃ F222, Mm none (fun _ => True) w w215 [.see (DkR d dv0 dv1) Fd, .see (Rs eWr 2 l lv0) Fl, .blk g4 #[v73, v74, .int .i64 (((put_m (Dk.mk l30 l34 x38 x39) ((l.getD x29 dWr).at_) ((l.getD x29 dWr).data)).1).fuse), .bool (((put_m (Dk.mk l30 l34 x38 x39) ((l.getD x29 dWr).at_) ((l.getD x29 dWr).data)).1).down)] 25, .see (Rs eS 1 l30 v31) F32, .see (Rs eWr 2 l34 v35) F36, .see (DkR ((put_m (Dk.mk l30 l34 x38 x39) ((l.getD x29 dWr).at_) ((l.getD x29 dWr).data)).1) v73 v74) F76, .blk g88 #[v73, v74, .int .i64 (((put_m (Dk.mk l30 l34 x38 x39) ((l.getD x29 dWr).at_) ((l.getD x29 dWr).data)).1).fuse), .bool (((put_m (Dk.mk l30 l34 x38 x39) ((l.getD x29 dWr).at_) ((l.getD x29 dWr).data)).1).down)] 25, .see (DkR ((flush_m ((put_m (Dk.mk l30 l34 x38 x39) ((l.getD x29 dWr).at_) ((l.getD x29 dWr).data)).1)).1) v138 v139) F141, .blk g152 #[v138, v139, .int .i64 (((flush_m ((put_m (Dk.mk l30 l34 x38 x39) ((l.getD x29 dWr).at_) ((l.getD x29 dWr).data)).1)).1).fuse), .bool (((flush_m ((put_m (Dk.mk l30 l34 x38 x39) ((l.getD x29 dWr).at_) ((l.getD x29 dWr).data)).1)).1).down)] 25, .see (DkR ((crash_m ((put_m (Dk.mk l30 l34 x38 x39) ((l.getD x29 dWr).at_) ((l.getD x29 dWr).data)).1) ([] : List UInt8) (-1)).1) v165 v166) F168, .blk g178 #[v165, v166, .int .i64 (((crash_m ((put_m (Dk.mk l30 l34 x38 x39) ((l.getD x29 dWr).at_) ((l.getD x29 dWr).data)).1) ([] : List UInt8) (-1)).1).fuse), .bool (((crash_m ((put_m (Dk.mk l30 l34 x38 x39) ((l.getD x29 dWr).at_) ((l.getD x29 dWr).data)).1) ([] : List UInt8) (-1)).1).down)] 25, .see (Rs eS 1 (((put_m (Dk.mk l30 l34 x38 x39) ((l.getD x29 dWr).at_) ((l.getD x29 dWr).data)).1).safe) v73) F219, .see (Rs eWr 2 (((put_m (Dk.mk l30 l34 x38 x39) ((l.getD x29 dWr).at_) ((l.getD x29 dWr).data)).1).loose) v74) F222] := hm220.derive ((hm220.from 5 rfl).mono (fun _ h => h.2))
    refine then_n (hR61 _ _ _ ⟨k47, (x29 + 1), (((put_m (Dk.mk l30 l34 x38 x39) ((l.getD x29 dWr).at_) ((l.getD x29 dWr).data)).1).safe), (((put_m (Dk.mk l30 l34 x38 x39) ((l.getD x29 dWr).at_) ((l.getD x29 dWr).data)).1).loose), ((put_m (Dk.mk l30 l34 x38 x39) ((l.getD x29 dWr).at_) ((l.getD x29 dWr).data)).1).fuse, (((put_m (Dk.mk l30 l34 x38 x39) ((l.getD x29 dWr).at_) ((l.getD x29 dWr).data)).1).down), v73, F219, v74, F222, (fun qq => bif Nat.blt qq 24 then List.getD [u0 0, .pointer (some ⟨g88, 0, none⟩), .int .i64 ((put_m (Dk.mk l30 l34 x38 x39) ((l.getD x29 dWr).at_) ((l.getD x29 dWr).data)).2), .string (tx ((get_m ((put_m (Dk.mk l30 l34 x38 x39) ((l.getD x29 dWr).at_) ((l.getD x29 dWr).data)).1) ((l.getD x29 dWr).at_)).1)), .int .i64 ((get_m ((put_m (Dk.mk l30 l34 x38 x39) ((l.getD x29 dWr).at_) ((l.getD x29 dWr).data)).1) ((l.getD x29 dWr).at_)).2), .pointer (some ⟨g152, 0, none⟩), .int .i64 ((flush_m ((put_m (Dk.mk l30 l34 x38 x39) ((l.getD x29 dWr).at_) ((l.getD x29 dWr).data)).1)).2), .string (tx ((get_m ((flush_m ((put_m (Dk.mk l30 l34 x38 x39) ((l.getD x29 dWr).at_) ((l.getD x29 dWr).data)).1)).1) ((l.getD x29 dWr).at_)).1)), .int .i64 ((get_m ((flush_m ((put_m (Dk.mk l30 l34 x38 x39) ((l.getD x29 dWr).at_) ((l.getD x29 dWr).data)).1)).1) ((l.getD x29 dWr).at_)).2), .pointer (some ⟨g178, 0, none⟩), .int .i64 ((crash_m ((put_m (Dk.mk l30 l34 x38 x39) ((l.getD x29 dWr).at_) ((l.getD x29 dWr).data)).1) ([] : List UInt8) (-1)).2), .int .i64 ((x29 : Nat) : Int), lv0, .int .i64 ((l.length : Nat) : Int), .bool (decide (x29 < l.length)), .int .i64 ((x29 : Nat) : Int), .int .i64 (((x29 + 1) : Nat) : Int), .tuple #[.agg #[v73, v74, .int .i64 (((put_m (Dk.mk l30 l34 x38 x39) ((l.getD x29 dWr).at_) ((l.getD x29 dWr).data)).1).fuse), .bool (((put_m (Dk.mk l30 l34 x38 x39) ((l.getD x29 dWr).at_) ((l.getD x29 dWr).data)).1).down)], .int .i64 ((put_m (Dk.mk l30 l34 x38 x39) ((l.getD x29 dWr).at_) ((l.getD x29 dWr).data)).2)], .agg #[v31, v35, .int .i64 (x38), .bool (x39)], lv0, .int .i64 ((x29 : Nat) : Int), .pointer (some ⟨(bk lv0), (po lv0 + x29 * 2), none⟩), .pointer (some ⟨(bk lv0), ((po lv0 + x29 * 2) + 0), none⟩), .int .i64 ((l.getD x29 dWr).at_)] qq undef else bif Nat.blt qq 48 then List.getD [lv0, .int .i64 ((x29 : Nat) : Int), .pointer (some ⟨(bk lv0), (po lv0 + x29 * 2), none⟩), .pointer (some ⟨(bk lv0), ((po lv0 + x29 * 2) + 1), none⟩), .string (tx ((l.getD x29 dWr).data)), .tuple #[.agg #[v73, v74, .int .i64 (((put_m (Dk.mk l30 l34 x38 x39) ((l.getD x29 dWr).at_) ((l.getD x29 dWr).data)).1).fuse), .bool (((put_m (Dk.mk l30 l34 x38 x39) ((l.getD x29 dWr).at_) ((l.getD x29 dWr).data)).1).down)], .int .i64 ((put_m (Dk.mk l30 l34 x38 x39) ((l.getD x29 dWr).at_) ((l.getD x29 dWr).data)).2)], .agg #[v73, v74, .int .i64 (((put_m (Dk.mk l30 l34 x38 x39) ((l.getD x29 dWr).at_) ((l.getD x29 dWr).data)).1).fuse), .bool (((put_m (Dk.mk l30 l34 x38 x39) ((l.getD x29 dWr).at_) ((l.getD x29 dWr).data)).1).down)], .int .i64 ((put_m (Dk.mk l30 l34 x38 x39) ((l.getD x29 dWr).at_) ((l.getD x29 dWr).data)).2), .int .i64 ((put_m (Dk.mk l30 l34 x38 x39) ((l.getD x29 dWr).at_) ((l.getD x29 dWr).data)).2), .bool (decide (¬ (put_m (Dk.mk l30 l34 x38 x39) ((l.getD x29 dWr).at_) ((l.getD x29 dWr).data)).2 = 0)), .tuple #[.string (tx ((get_m ((put_m (Dk.mk l30 l34 x38 x39) ((l.getD x29 dWr).at_) ((l.getD x29 dWr).data)).1) ((l.getD x29 dWr).at_)).1)), .int .i64 ((get_m ((put_m (Dk.mk l30 l34 x38 x39) ((l.getD x29 dWr).at_) ((l.getD x29 dWr).data)).1) ((l.getD x29 dWr).at_)).2)], .agg #[v73, v74, .int .i64 (((put_m (Dk.mk l30 l34 x38 x39) ((l.getD x29 dWr).at_) ((l.getD x29 dWr).data)).1).fuse), .bool (((put_m (Dk.mk l30 l34 x38 x39) ((l.getD x29 dWr).at_) ((l.getD x29 dWr).data)).1).down)], lv0, .int .i64 ((x29 : Nat) : Int), .pointer (some ⟨(bk lv0), (po lv0 + x29 * 2), none⟩), .pointer (some ⟨(bk lv0), ((po lv0 + x29 * 2) + 0), none⟩), .int .i64 ((l.getD x29 dWr).at_), .tuple #[.string (tx ((get_m ((put_m (Dk.mk l30 l34 x38 x39) ((l.getD x29 dWr).at_) ((l.getD x29 dWr).data)).1) ((l.getD x29 dWr).at_)).1)), .int .i64 ((get_m ((put_m (Dk.mk l30 l34 x38 x39) ((l.getD x29 dWr).at_) ((l.getD x29 dWr).data)).1) ((l.getD x29 dWr).at_)).2)], .string (tx ((get_m ((put_m (Dk.mk l30 l34 x38 x39) ((l.getD x29 dWr).at_) ((l.getD x29 dWr).data)).1) ((l.getD x29 dWr).at_)).1)), .int .i64 ((get_m ((put_m (Dk.mk l30 l34 x38 x39) ((l.getD x29 dWr).at_) ((l.getD x29 dWr).data)).1) ((l.getD x29 dWr).at_)).2), .tuple #[.agg #[v138, v139, .int .i64 (((flush_m ((put_m (Dk.mk l30 l34 x38 x39) ((l.getD x29 dWr).at_) ((l.getD x29 dWr).data)).1)).1).fuse), .bool (((flush_m ((put_m (Dk.mk l30 l34 x38 x39) ((l.getD x29 dWr).at_) ((l.getD x29 dWr).data)).1)).1).down)], .int .i64 ((flush_m ((put_m (Dk.mk l30 l34 x38 x39) ((l.getD x29 dWr).at_) ((l.getD x29 dWr).data)).1)).2)], .agg #[v73, v74, .int .i64 (((put_m (Dk.mk l30 l34 x38 x39) ((l.getD x29 dWr).at_) ((l.getD x29 dWr).data)).1).fuse), .bool (((put_m (Dk.mk l30 l34 x38 x39) ((l.getD x29 dWr).at_) ((l.getD x29 dWr).data)).1).down)], .tuple #[.agg #[v138, v139, .int .i64 (((flush_m ((put_m (Dk.mk l30 l34 x38 x39) ((l.getD x29 dWr).at_) ((l.getD x29 dWr).data)).1)).1).fuse), .bool (((flush_m ((put_m (Dk.mk l30 l34 x38 x39) ((l.getD x29 dWr).at_) ((l.getD x29 dWr).data)).1)).1).down)], .int .i64 ((flush_m ((put_m (Dk.mk l30 l34 x38 x39) ((l.getD x29 dWr).at_) ((l.getD x29 dWr).data)).1)).2)], .agg #[v138, v139, .int .i64 (((flush_m ((put_m (Dk.mk l30 l34 x38 x39) ((l.getD x29 dWr).at_) ((l.getD x29 dWr).data)).1)).1).fuse), .bool (((flush_m ((put_m (Dk.mk l30 l34 x38 x39) ((l.getD x29 dWr).at_) ((l.getD x29 dWr).data)).1)).1).down)]] (qq - 24) undef else bif Nat.blt qq 72 then List.getD [.int .i64 ((flush_m ((put_m (Dk.mk l30 l34 x38 x39) ((l.getD x29 dWr).at_) ((l.getD x29 dWr).data)).1)).2), .tuple #[.string (tx ((get_m ((flush_m ((put_m (Dk.mk l30 l34 x38 x39) ((l.getD x29 dWr).at_) ((l.getD x29 dWr).data)).1)).1) ((l.getD x29 dWr).at_)).1)), .int .i64 ((get_m ((flush_m ((put_m (Dk.mk l30 l34 x38 x39) ((l.getD x29 dWr).at_) ((l.getD x29 dWr).data)).1)).1) ((l.getD x29 dWr).at_)).2)], .agg #[v138, v139, .int .i64 (((flush_m ((put_m (Dk.mk l30 l34 x38 x39) ((l.getD x29 dWr).at_) ((l.getD x29 dWr).data)).1)).1).fuse), .bool (((flush_m ((put_m (Dk.mk l30 l34 x38 x39) ((l.getD x29 dWr).at_) ((l.getD x29 dWr).data)).1)).1).down)], lv0, .int .i64 ((x29 : Nat) : Int), .pointer (some ⟨(bk lv0), (po lv0 + x29 * 2), none⟩), .pointer (some ⟨(bk lv0), ((po lv0 + x29 * 2) + 0), none⟩), .int .i64 ((l.getD x29 dWr).at_), .tuple #[.string (tx ((get_m ((flush_m ((put_m (Dk.mk l30 l34 x38 x39) ((l.getD x29 dWr).at_) ((l.getD x29 dWr).data)).1)).1) ((l.getD x29 dWr).at_)).1)), .int .i64 ((get_m ((flush_m ((put_m (Dk.mk l30 l34 x38 x39) ((l.getD x29 dWr).at_) ((l.getD x29 dWr).data)).1)).1) ((l.getD x29 dWr).at_)).2)], .string (tx ((get_m ((flush_m ((put_m (Dk.mk l30 l34 x38 x39) ((l.getD x29 dWr).at_) ((l.getD x29 dWr).data)).1)).1) ((l.getD x29 dWr).at_)).1)), .int .i64 ((get_m ((flush_m ((put_m (Dk.mk l30 l34 x38 x39) ((l.getD x29 dWr).at_) ((l.getD x29 dWr).data)).1)).1) ((l.getD x29 dWr).at_)).2), .tuple #[.agg #[v165, v166, .int .i64 (((crash_m ((put_m (Dk.mk l30 l34 x38 x39) ((l.getD x29 dWr).at_) ((l.getD x29 dWr).data)).1) ([] : List UInt8) (-1)).1).fuse), .bool (((crash_m ((put_m (Dk.mk l30 l34 x38 x39) ((l.getD x29 dWr).at_) ((l.getD x29 dWr).data)).1) ([] : List UInt8) (-1)).1).down)], .int .i64 ((crash_m ((put_m (Dk.mk l30 l34 x38 x39) ((l.getD x29 dWr).at_) ((l.getD x29 dWr).data)).1) ([] : List UInt8) (-1)).2)], .agg #[v73, v74, .int .i64 (((put_m (Dk.mk l30 l34 x38 x39) ((l.getD x29 dWr).at_) ((l.getD x29 dWr).data)).1).fuse), .bool (((put_m (Dk.mk l30 l34 x38 x39) ((l.getD x29 dWr).at_) ((l.getD x29 dWr).data)).1).down)], .tuple #[.agg #[v165, v166, .int .i64 (((crash_m ((put_m (Dk.mk l30 l34 x38 x39) ((l.getD x29 dWr).at_) ((l.getD x29 dWr).data)).1) ([] : List UInt8) (-1)).1).fuse), .bool (((crash_m ((put_m (Dk.mk l30 l34 x38 x39) ((l.getD x29 dWr).at_) ((l.getD x29 dWr).data)).1) ([] : List UInt8) (-1)).1).down)], .int .i64 ((crash_m ((put_m (Dk.mk l30 l34 x38 x39) ((l.getD x29 dWr).at_) ((l.getD x29 dWr).data)).1) ([] : List UInt8) (-1)).2)], .agg #[v165, v166, .int .i64 (((crash_m ((put_m (Dk.mk l30 l34 x38 x39) ((l.getD x29 dWr).at_) ((l.getD x29 dWr).data)).1) ([] : List UInt8) (-1)).1).fuse), .bool (((crash_m ((put_m (Dk.mk l30 l34 x38 x39) ((l.getD x29 dWr).at_) ((l.getD x29 dWr).data)).1) ([] : List UInt8) (-1)).1).down)], .int .i64 ((crash_m ((put_m (Dk.mk l30 l34 x38 x39) ((l.getD x29 dWr).at_) ((l.getD x29 dWr).data)).1) ([] : List UInt8) (-1)).2), .int .i64 ((get_m ((put_m (Dk.mk l30 l34 x38 x39) ((l.getD x29 dWr).at_) ((l.getD x29 dWr).data)).1) ((l.getD x29 dWr).at_)).2), .bool false, .bool false, .int .i64 ((flush_m ((put_m (Dk.mk l30 l34 x38 x39) ((l.getD x29 dWr).at_) ((l.getD x29 dWr).data)).1)).2), .bool false, .bool false, .bool false, .int .i64 ((get_m ((flush_m ((put_m (Dk.mk l30 l34 x38 x39) ((l.getD x29 dWr).at_) ((l.getD x29 dWr).data)).1)).1) ((l.getD x29 dWr).at_)).2)] (qq - 48) undef else bif Nat.blt qq 96 then List.getD [.bool false, .bool false, .bool false, .int .i64 ((crash_m ((put_m (Dk.mk l30 l34 x38 x39) ((l.getD x29 dWr).at_) ((l.getD x29 dWr).data)).1) ([] : List UInt8) (-1)).2), .bool false, .bool false, .bool false, .string (tx ((get_m ((put_m (Dk.mk l30 l34 x38 x39) ((l.getD x29 dWr).at_) ((l.getD x29 dWr).data)).1) ((l.getD x29 dWr).at_)).1)), lv0, .int .i64 ((x29 : Nat) : Int), .pointer (some ⟨(bk lv0), (po lv0 + x29 * 2), none⟩), .pointer (some ⟨(bk lv0), ((po lv0 + x29 * 2) + 1), none⟩), .string (tx ((l.getD x29 dWr).data)), .bool false, .bool false, .bool false, .string (tx ((get_m ((flush_m ((put_m (Dk.mk l30 l34 x38 x39) ((l.getD x29 dWr).at_) ((l.getD x29 dWr).data)).1)).1) ((l.getD x29 dWr).at_)).1)), lv0, .int .i64 ((x29 : Nat) : Int), .pointer (some ⟨(bk lv0), (po lv0 + x29 * 2), none⟩), .pointer (some ⟨(bk lv0), ((po lv0 + x29 * 2) + 1), none⟩), .string (tx ((l.getD x29 dWr).data)), .bool false, .bool false] (qq - 72) undef else List.getD [.bool false, .pointer (some ⟨g178, 0, none⟩), v165, lv0, .int .i64 ((x29 : Nat) : Int), .pointer (some ⟨(bk lv0), (po lv0 + x29 * 2), none⟩), .pointer (some ⟨(bk lv0), ((po lv0 + x29 * 2) + 0), none⟩), .int .i64 ((l.getD x29 dWr).at_), .pointer (some ⟨(bk v165), (po v165 + ((l.getD x29 dWr).at_).toNat * 1), none⟩), .string (tx ((((crash_m ((put_m (Dk.mk l30 l34 x38 x39) ((l.getD x29 dWr).at_) ((l.getD x29 dWr).data)).1) ([] : List UInt8) (-1)).1).safe).getD (((l.getD x29 dWr).at_).toNat) [])), .pointer (some ⟨g4, 0, none⟩), v31, lv0, .int .i64 ((x29 : Nat) : Int), .pointer (some ⟨(bk lv0), (po lv0 + x29 * 2), none⟩), .pointer (some ⟨(bk lv0), ((po lv0 + x29 * 2) + 0), none⟩), .int .i64 ((l.getD x29 dWr).at_), .pointer (some ⟨(bk v31), (po v31 + ((l.getD x29 dWr).at_).toNat * 1), none⟩), .string (tx (l30.getD (((l.getD x29 dWr).at_).toNat) [])), .bool (decide (¬ ((((crash_m ((put_m (Dk.mk l30 l34 x38 x39) ((l.getD x29 dWr).at_) ((l.getD x29 dWr).data)).1) ([] : List UInt8) (-1)).1).safe).getD (((l.getD x29 dWr).at_).toNat) []) = (l30.getD (((l.getD x29 dWr).at_).toNat) []))), .bool (decide (¬ ((((crash_m ((put_m (Dk.mk l30 l34 x38 x39) ((l.getD x29 dWr).at_) ((l.getD x29 dWr).data)).1) ([] : List UInt8) (-1)).1).safe).getD (((l.getD x29 dWr).at_).toNat) []) = (l30.getD (((l.getD x29 dWr).at_).toNat) []))), .agg #[v73, v74, .int .i64 (((put_m (Dk.mk l30 l34 x38 x39) ((l.getD x29 dWr).at_) ((l.getD x29 dWr).data)).1).fuse), .bool (((put_m (Dk.mk l30 l34 x38 x39) ((l.getD x29 dWr).at_) ((l.getD x29 dWr).data)).1).down)]] (qq - 96) undef), rfl, (by first | omega | (simp; omega) | (simp at *; omega)), (hi48.trans (show last_m_b0 d l (last_m_l0 d l k47) x29 l30 l34 x38 x39 = last_m_l0 d l k47 ((x29 + 1), (((put_m (Dk.mk l30 l34 x38 x39) ((l.getD x29 dWr).at_) ((l.getD x29 dWr).data)).1).safe), (((put_m (Dk.mk l30 l34 x38 x39) ((l.getD x29 dWr).at_) ((l.getD x29 dWr).data)).1).loose), ((put_m (Dk.mk l30 l34 x38 x39) ((l.getD x29 dWr).at_) ((l.getD x29 dWr).data)).1).fuse, (((put_m (Dk.mk l30 l34 x38 x39) ((l.getD x29 dWr).at_) ((l.getD x29 dWr).data)).1).down)) from by unfold last_m_b0; rw [if_pos hc66, if_neg hc123, if_neg hs187, if_neg hs191, if_neg hs195, if_neg hs199, if_neg hs203, if_neg hs207, if_neg hc211] <;> rfl)), (by first | omega | (simp; done) | (simp; omega) | (simp at *; omega)), (by first | omega | (simp; done) | (simp; omega) | (simp at *; omega)), (by first | omega | (simp; done) | (simp; omega) | (simp at *; omega)), rfl, (Mm.reorder hm223 [0, 1, 2, 11, 12] (by decide) rfl)⟩ ?_)
    omega
  rintro _ w231 ⟨y49, y50, y53, y56, y57, v51, F52, v54, F55, yu0, hx58, hls, hll, hfu, rfl, hm232⟩
  have hq233 : last_m d l = last_m_k0 d l y49 y50 y53 y56 y57 := (show last_m d l = last_m_k0 d l y49 y50 y53 y56 y57 from by unfold last_m; rw [if_neg hs9, if_neg hs14, if_neg hc19, hx58] <;> rfl)
  refine then_n (hK27 _ _ ?_)
  refine wp_seq_k (fun K234 hK234 => ?_)
  refine wp_region_lit ?_
  refine lst rfl (m_call hm232 137 (.bool (awake_m)) rfl (run_awake rfl) (awake_any   _  ) (fun w235 (hm236 : Mm none (fun _ => True) w w235 [.see (DkR d dv0 dv1) Fd, .see (Rs eWr 2 l lv0) Fl, .blk g4 #[v51, v54, .int .i64 (y56), .bool (y57)] 25, .see (Rs eS 1 y50 v51) F52, .see (Rs eWr 2 y53 v54) F55]) => ?_))
  simp only [nz1, nz2, nz3]
  refine lvw 4 (.bool (awake_m)) rfl rfl (run_as rfl rfl) ?_
  simp only [nz1, nz2, nz3]
  refine wpList_nil ?_
  refine then_n (hK234 _ _ ?_)
  refine wp_ret ?_
  have he237 : last_m d l = awake_m := (hq233.trans (show last_m_k0 d l y49 y50 y53 y56 y57 = awake_m from by unfold last_m_k0; rfl))
  exact ⟨rfl, .bool (awake_m), res_t rfl rfl, ⟨by rw [he237], hm236.below⟩⟩
theorem run_last {o : Oper} {a : Act} {w : World} {x0 x1 : Operand} {v0 v1 : Value} (ho : o.op = .call { callee := .value (.func 7), args := #[x0, x1], argTypes := #[25, 23] }) (h0 : a.eval x0 = v0) (h1 : a.eval x1 = v1) :
    (execOp a.eval o).run Try.prog w = .ok (.enter 7 #[v0, v1]) w := by
  unfold execOp
  simp only [ho]
  have hf : a.eval (.func 7) = .func (.func 7) #[] #[] := rfl
  generalize a.eval = f at *
  go_simp
end Go.Proofs.Ytmammofbgllceaa.Bk
