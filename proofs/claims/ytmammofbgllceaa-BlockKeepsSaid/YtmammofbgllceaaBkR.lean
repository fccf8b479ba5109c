/- Layer 15: BlockKeeps. -/
import Derived.Test.YtmammofbgllceaaBkW
namespace Go.Proofs.Ytmammofbgllceaa.Bk
open Go.RowKit
open Go.Proofs.Ytmammofbgllceaa.Sym Go.Proofs.Ytmammofbgllceaa.Mem
open Go.Proofs.Ytmammofbgllceaa.Sx hiding Mm m_alloc m_store m_put m_call m_callx m_make m_append r_string r_ixS
set_option linter.unusedVariables false
attribute [local irreducible] wpList Oper.wp

def keeps_m_b0 (d : Dk) (l : List Wr) (fates : List UInt8) (rec : Nat × (List (List UInt8)) × (List Wr) × Int × Bool → Sum (Nat × (List (List UInt8)) × (List Wr) × Int × Bool) (Bool)) (x51 : Nat) (l52 : List (List UInt8)) (l56 : List Wr) (x60 : Int) (x61 : Bool) : Sum (Nat × (List (List UInt8)) × (List Wr) × Int × Bool) (Bool) :=
  if x51 < l.length then
    if x51 < 60 then
      if (put_m (Dk.mk l52 l56 x60 x61) ((l.getD x51 dWr).at_) ((l.getD x51 dWr).data)).2 = 0 then
        rec ((x51 + 1), (((put_m (Dk.mk l52 l56 x60 x61) ((l.getD x51 dWr).at_) ((l.getD x51 dWr).data)).1).safe), (((put_m (Dk.mk l52 l56 x60 x61) ((l.getD x51 dWr).at_) ((l.getD x51 dWr).data)).1).loose), ((put_m (Dk.mk l52 l56 x60 x61) ((l.getD x51 dWr).at_) ((l.getD x51 dWr).data)).1).fuse, (((put_m (Dk.mk l52 l56 x60 x61) ((l.getD x51 dWr).at_) ((l.getD x51 dWr).data)).1).down))
      else
        rec ((x51 + 1), l52, l56, x60, x61)
    else
      .inl (x51, l52, l56, x60, x61)
  else
    .inl (x51, l52, l56, x60, x61)
def keeps_m_l0 (d : Dk) (l : List Wr) (fates : List UInt8) : Nat → Nat × (List (List UInt8)) × (List Wr) × Int × Bool → Sum (Nat × (List (List UInt8)) × (List Wr) × Int × Bool) (Bool)
  | 0, s => .inl s
  | nq + 1, s => keeps_m_b0 d l fates (keeps_m_l0 d l fates nq) s.1 s.2.1 s.2.2.1 s.2.2.2.1 s.2.2.2.2

def keeps_m_b2 (d : Dk) (l : List Wr) (fates : List UInt8) (y71 : Nat) (y72 : List (List UInt8)) (y75 : List Wr) (y78 : Int) (y79 : Bool) (x217 : Nat) (rec : Bool × Nat → Sum (Bool × Nat) (Bool)) (x237 : Bool) (x238 : Nat) : Sum (Bool × Nat) (Bool) :=
  if x238 < l.length then
    if x238 < 60 then
      if x237 = true then
        rec (true, (x238 + 1))
      else
        if (l.getD x238 dWr).at_ = ((x217 : Nat) : Int) then
          rec ((decide ((l.getD x238 dWr).data = ((((crash_m (Dk.mk y72 y75 y78 y79) fates (-1)).1).safe).getD x217 []))), (x238 + 1))
        else
          rec (false, (x238 + 1))
    else
      .inl (x237, x238)
  else
    .inl (x237, x238)
def keeps_m_l2 (d : Dk) (l : List Wr) (fates : List UInt8) (y71 : Nat) (y72 : List (List UInt8)) (y75 : List Wr) (y78 : Int) (y79 : Bool) (x217 : Nat) : Nat → Bool × Nat → Sum (Bool × Nat) (Bool)
  | 0, s => .inl s
  | nq + 1, s => keeps_m_b2 d l fates y71 y72 y75 y78 y79 x217 (keeps_m_l2 d l fates y71 y72 y75 y78 y79 x217 nq) s.1 s.2

def keeps_m_k2 (d : Dk) (l : List Wr) (fates : List UInt8) (y71 : Nat) (y72 : List (List UInt8)) (y75 : List Wr) (y78 : Int) (y79 : Bool) (x217 : Nat) (rec : Nat → Sum (Nat) (Bool)) (y242 : Bool) (y243 : Nat) : Sum (Nat) (Bool) :=
  if (!y242) = true then
    .inr false
  else
    rec (x217 + 1)

def keeps_m_b1 (d : Dk) (l : List Wr) (fates : List UInt8) (y71 : Nat) (y72 : List (List UInt8)) (y75 : List Wr) (y78 : Int) (y79 : Bool) (rec : Nat → Sum (Nat) (Bool)) (x217 : Nat) : Sum (Nat) (Bool) :=
  if x217 < (((crash_m (Dk.mk y72 y75 y78 y79) fates (-1)).1).safe).length then
    fin (keeps_m_l2 d l fates y71 y72 y75 y78 y79 x217 ((l.length - 0) + 1) ((decide (((((crash_m (Dk.mk y72 y75 y78 y79) fates (-1)).1).safe).getD x217 []) = ((((flush_m (Dk.mk d.safe d.loose (-1) d.down)).1).safe).getD x217 []))), 0)) .inr (fun s => keeps_m_k2 d l fates y71 y72 y75 y78 y79 x217 rec s.1 s.2)
  else
    .inl x217
def keeps_m_l1 (d : Dk) (l : List Wr) (fates : List UInt8) (y71 : Nat) (y72 : List (List UInt8)) (y75 : List Wr) (y78 : Int) (y79 : Bool) : Nat → Nat → Sum (Nat) (Bool)
  | 0, s => .inl s
  | nq + 1, s => keeps_m_b1 d l fates y71 y72 y75 y78 y79 (keeps_m_l1 d l fates y71 y72 y75 y78 y79 nq) s

def keeps_m_k1 (d : Dk) (l : List Wr) (fates : List UInt8) (y71 : Nat) (y72 : List (List UInt8)) (y75 : List Wr) (y78 : Int) (y79 : Bool) (y221 : Nat) : Bool :=
  awake_m

def keeps_m_k0 (d : Dk) (l : List Wr) (fates : List UInt8) (y71 : Nat) (y72 : List (List UInt8)) (y75 : List Wr) (y78 : Int) (y79 : Bool) : Bool :=
  if ¬ (flush_m (Dk.mk d.safe d.loose (-1) d.down)).2 = 0 then
    false
  else
    if ¬ (crash_m (Dk.mk y72 y75 y78 y79) fates (-1)).2 = 0 then
      false
    else
      if ¬ (((crash_m (Dk.mk y72 y75 y78 y79) fates (-1)).1).safe).length = (((flush_m (Dk.mk d.safe d.loose (-1) d.down)).1).safe).length then
        false
      else
        if ¬ (((crash_m (Dk.mk y72 y75 y78 y79) fates (-1)).1).loose).length = 0 then
          false
        else
          if (((crash_m (Dk.mk y72 y75 y78 y79) fates (-1)).1).down) = true then
            false
          else
            fin (keeps_m_l1 d l fates y71 y72 y75 y78 y79 (((((crash_m (Dk.mk y72 y75 y78 y79) fates (-1)).1).safe).length - 0) + 1) 0) (fun r => r) (fun s => keeps_m_k1 d l fates y71 y72 y75 y78 y79 s)

def keeps_m (d : Dk) (l : List Wr) (fates : List UInt8) : Bool :=
  if (!(right_m d)) = true then
    awake_m
  else
    if d.down = true then
      awake_m
    else
      fin (keeps_m_l0 d l fates ((l.length - 0) + 1) (0, (((flush_m (Dk.mk d.safe d.loose (-1) d.down)).1).safe), (((flush_m (Dk.mk d.safe d.loose (-1) d.down)).1).loose), ((flush_m (Dk.mk d.safe d.loose (-1) d.down)).1).fuse, (((flush_m (Dk.mk d.safe d.loose (-1) d.down)).1).down))) (fun r => r) (fun s => keeps_m_k0 d l fates s.1 s.2.1 s.2.2.1 s.2.2.2.1 s.2.2.2.2)

set_option maxHeartbeats 4000000 in
set_option maxRecDepth 100000 in
theorem keeps_any (d : Dk) (l : List Wr) (fates : List UInt8) (dv0 dv1 lv0 fatesv0 : Value) (w : World) (hd : DkR d dv0 dv1 w) (hl : Rs eWr 2 l lv0 w) (hfates : Rs eB 1 fates fatesv0 w) (hp0 : d.safe.length ≤ 8796093021952) (hp1 : d.loose.length ≤ 5864062014634) (hp2 : l.length ≤ 5864062014634) (hp3 : fates.length ≤ 140737488351232) : Calls Try.prog 5 #[.agg #[dv0, dv1, .int .i64 (d.fuse), .bool (d.down)], lv0, fatesv0] w (fun e w' => e = .returned (.bool ((keeps_m d l fates))) ∧ Below w.heap.size w w') := by
  go_enter Try.func5, Try.ntmps5
  have hm00 := Mm.nil none (fun _ => True) w
  obtain ⟨Fd, hm01⟩ : ∃ Fd, Mm none (fun _ => True) w w [.see (DkR d dv0 dv1) Fd] := hm00.come (DkR_all hd)
  obtain ⟨Fl, hm02⟩ : ∃ Fl, Mm none (fun _ => True) w w [.see (DkR d dv0 dv1) Fd, .see (Rs eWr 2 l lv0) Fl] := hm01.come (Rs.all hl)
  obtain ⟨Ffates, hm03⟩ : ∃ Ffates, Mm none (fun _ => True) w w [.see (DkR d dv0 dv1) Fd, .see (Rs eWr 2 l lv0) Fl, .see (Rs eB 1 fates fatesv0) Ffates] := hm02.come (Rs.all hfates)
  have hm0 := hm03
  refine wp_seq_k (fun K1 hK1 => ?_)
  refine wp_region_lit ?_
  refine lst rfl (m_alloc (c := #[dv0, dv1, .int .i64 (d.fuse), .bool (d.down)]) (T := 25) hm0 3 rfl (run_box rfl rfl) (fun g4 w2 (hm3 : Mm none (fun _ => True) w w2 [.see (DkR d dv0 dv1) Fd, .see (Rs eWr 2 l lv0) Fl, .see (Rs eB 1 fates fatesv0) Ffates, .blk g4 #[dv0, dv1, .int .i64 (d.fuse), .bool (d.down)] 25]) => ?_))
  simp only [nz1, nz2, nz3]
  refine lvw 6 (.bool false) rfl rfl (run_as rfl rfl) ?_
  simp only [nz1, nz2, nz3]
  refine wpList_nil ?_
  refine then_n (hK1 _ _ ?_)
  refine wp_seq_k (fun K5 hK5 => ?_)
  refine wp_seq_k (fun K6 hK6 => ?_)
  refine wp_region_lit ?_
  refine lvw 17 (.agg #[dv0, dv1, .int .i64 (d.fuse), .bool (d.down)]) rfl rfl (r_whole (hm3.at 3 rfl) Try.underlying25 rfl (by exact sz_25) rfl rfl) ?_
  simp only [nz1, nz2, nz3]
  refine lst rfl (m_call hm3 18 (.bool ((right_m d))) rfl (run_right rfl rfl) (right_any d dv0 dv1 _ (hm3.see 0 rfl) (by first | omega | assumption | decide | (simp; done) | (simp; omega))) (fun w7 (hm8 : Mm none (fun _ => True) w w7 [.see (DkR d dv0 dv1) Fd, .see (Rs eWr 2 l lv0) Fl, .see (Rs eB 1 fates fatesv0) Ffates, .blk g4 #[dv0, dv1, .int .i64 (d.fuse), .bool (d.down)] 25]) => ?_))
  simp only [nz1, nz2, nz3]
  refine lvB 19 (!(right_m d)) rfl rfl (r_not (right_m d) rfl rfl) (fun hs9 => ?_) (fun hs9 => ?_)
  · simp only [nz1, nz2, nz3]
    refine lvw 20 (.bool true) rfl rfl (run_mv rfl rfl) ?_
    simp only [nz1, nz2, nz3]
    refine lst_skip 21 rfl rfl ?_
    simp only [nz1, nz2, nz3]
    refine lst_skip 22 rfl rfl ?_
    simp only [nz1, nz2, nz3]
    refine lvw 23 (.bool true) rfl rfl (run_pick rfl rfl rfl) ?_
    simp only [nz1, nz2, nz3]
    refine wpList_nil ?_
    refine then_n (hK6 _ _ ?_)
    refine cond_t rfl ?_
    refine wp_seq_k (fun K10 hK10 => ?_)
    refine wp_region_lit ?_
    refine lst rfl (m_call hm8 24 (.bool (awake_m)) rfl (run_awake rfl) (awake_any   _  ) (fun w11 (hm12 : Mm none (fun _ => True) w w11 [.see (DkR d dv0 dv1) Fd, .see (Rs eWr 2 l lv0) Fl, .see (Rs eB 1 fates fatesv0) Ffates, .blk g4 #[dv0, dv1, .int .i64 (d.fuse), .bool (d.down)] 25]) => ?_))
    simp only [nz1, nz2, nz3]
    refine lvw 6 (.bool (awake_m)) rfl rfl (run_as rfl rfl) ?_
    simp only [nz1, nz2, nz3]
    refine wpList_nil ?_
    refine then_n (hK10 _ _ ?_)
    refine wp_ret ?_
    refine then_r ?_
    have he13 : keeps_m d l fates = awake_m := (show keeps_m d l fates = awake_m from by unfold keeps_m; rw [if_pos hs9] <;> rfl)
    exact ⟨rfl, .bool (awake_m), res_t rfl rfl, ⟨by rw [he13], hm12.below⟩⟩
  simp only [nz1, nz2, nz3]
  refine lvw 20 (.bool false) rfl rfl (run_mv rfl rfl) ?_
  simp only [nz1, nz2, nz3]
  refine lvw 21 (.pointer (some ⟨g4, 3, none⟩)) rfl rfl (r_fa25_3 g4 0 rfl rfl) ?_
  simp only [nz1, nz2, nz3]
  refine lvw 22 (.bool (d.down)) rfl rfl (r_load (hm8.at 3 rfl) rfl Try.underlying4 rfl rfl rfl) ?_
  simp only [nz1, nz2, nz3]
  refine lvw 23 (.bool (d.down)) rfl rfl (run_pickf rfl rfl rfl) ?_
  simp only [nz1, nz2, nz3]
  refine wpList_nil ?_
  refine then_n (hK6 _ _ ?_)
  refine cond_B d.down rfl (fun hc14 => ?_) (fun hc14 => ?_)
  · refine wp_seq_k (fun K15 hK15 => ?_)
    refine wp_region_lit ?_
    refine lst rfl (m_call hm8 24 (.bool (awake_m)) rfl (run_awake rfl) (awake_any   _  ) (fun w16 (hm17 : Mm none (fun _ => True) w w16 [.see (DkR d dv0 dv1) Fd, .see (Rs eWr 2 l lv0) Fl, .see (Rs eB 1 fates fatesv0) Ffates, .blk g4 #[dv0, dv1, .int .i64 (d.fuse), .bool (d.down)] 25]) => ?_))
    simp only [nz1, nz2, nz3]
    refine lvw 6 (.bool (awake_m)) rfl rfl (run_as rfl rfl) ?_
    simp only [nz1, nz2, nz3]
    refine wpList_nil ?_
    refine then_n (hK15 _ _ ?_)
    refine wp_ret ?_
    refine then_r ?_
    have he18 : keeps_m d l fates = awake_m := (show keeps_m d l fates = awake_m from by unfold keeps_m; rw [if_neg hs9, if_pos hc14] <;> rfl)
    exact ⟨rfl, .bool (awake_m), res_t rfl rfl, ⟨by rw [he18], hm17.below⟩⟩
  refine wp_skip ?_
  refine then_n (hK5 _ _ ?_)
  refine wp_seq_k (fun K19 hK19 => ?_)
  refine wp_region_lit ?_
  refine lvw 25 (.pointer (some ⟨g4, 2, none⟩)) rfl rfl (r_fa25_2 g4 0 rfl rfl) ?_
  simp only [nz1, nz2, nz3]
  refine lst rfl (m_store 3 3 _ _ 2 (.int .i64 (-1)) (old := #[dv0, dv1, .int .i64 (d.fuse), .bool (d.down)]) (new := #[dv0, dv1, .int .i64 (-1), .bool (d.down)]) hm8 rfl rfl rfl rfl rfl (by exact sz_3) (show 2 + 1 ≤ 4 from by decide) (one_all rfl) rfl (fun w20 (hm21 : Mm none (fun _ => True) w w20 [.see (DkR d dv0 dv1) Fd, .see (Rs eWr 2 l lv0) Fl, .see (Rs eB 1 fates fatesv0) Ffates, .blk g4 #[dv0, dv1, .int .i64 (-1), .bool (d.down)] 25]) => ?_))
  refine wpList_nil ?_
  refine then_n (hK19 _ _ ?_)
  refine wp_seq_k (fun K22 hK22 => ?_)
  refine wp_region_lit ?_
  refine lvw 27 (.agg #[dv0, dv1, .int .i64 (-1), .bool (d.down)]) rfl rfl (r_whole (hm21.at 3 rfl) Try.underlying25 rfl (by exact sz_25) rfl rfl) ?_
  simp only [nz1, nz2, nz3]
  refine lst rfl (m_callx hm21 28 rfl (run_flush rfl rfl) (flush_any (Dk.mk d.safe d.loose (-1) d.down) dv0 dv1 (seeS _) _ (hm21.from 0 rfl) (by first | omega | assumption | decide | (simp; done) | (simp; omega)) (by first | omega | assumption | decide | (simp; done) | (simp; omega)) (by first | omega | assumption | decide | (simp; done) | (simp; omega))) (fun vv29 w23 hR30 hb31 hm24 => ?_))
  obtain ⟨v25, v26, rfl, hg32⟩ := hR30
  obtain ⟨F28, hm33⟩ : ∃ F28, Mm none (fun _ => True) w w23 [.see (DkR d dv0 dv1) Fd, .see (Rs eWr 2 l lv0) Fl, .see (Rs eB 1 fates fatesv0) Ffates, .blk g4 #[dv0, dv1, .int .i64 (-1), .bool (d.down)] 25, .see (DkR ((flush_m (Dk.mk d.safe d.loose (-1) d.down)).1) v25 v26) F28] := Mm.tookS hm21 hb31 hg32
  clear hm24 hg32 hb31
  have hf34 : (flush_m (Dk.mk d.safe d.loose (-1) d.down)).1.safe.length = d.safe.length := (flush_near (Dk.mk d.safe d.loose (-1) d.down)).1
  have hf35 : (flush_m (Dk.mk d.safe d.loose (-1) d.down)).1.loose.length ≤ d.loose.length + 0 := (flush_near (Dk.mk d.safe d.loose (-1) d.down)).2.1
  have hf36 : (flush_m (Dk.mk d.safe d.loose (-1) d.down)).1.fuse ≤ 9223372036854775807 := (flush_near (Dk.mk d.safe d.loose (-1) d.down)).2.2 (show (-1) ≤ 9223372036854775807 from (by first | omega | (simp; done) | (simp; omega)))
  simp only [nz1, nz2, nz3]
  refine lvw 26 (.tuple #[.agg #[v25, v26, .int .i64 (((flush_m (Dk.mk d.safe d.loose (-1) d.down)).1).fuse), .bool (((flush_m (Dk.mk d.safe d.loose (-1) d.down)).1).down)], .int .i64 ((flush_m (Dk.mk d.safe d.loose (-1) d.down)).2)]) rfl rfl (run_mv rfl rfl) ?_
  simp only [nz1, nz2, nz3]
  refine lvw 29 (.agg #[v25, v26, .int .i64 (((flush_m (Dk.mk d.safe d.loose (-1) d.down)).1).fuse), .bool (((flush_m (Dk.mk d.safe d.loose (-1) d.down)).1).down)]) rfl rfl (run_ex rfl rfl rfl) ?_
  simp only [nz1, nz2, nz3]
  refine lvw 30 (.int .i64 ((flush_m (Dk.mk d.safe d.loose (-1) d.down)).2)) rfl rfl (run_ex rfl rfl rfl) ?_
  simp only [nz1, nz2, nz3]
  have ho39 := (rd_one ((hm33.see 4 rfl).1))
  have ho40 := (rd_one ((hm33.see 4 rfl).2))
  refine lst rfl (m_store 3 25 _ _ 0 (.agg #[v25, v26, .int .i64 (((flush_m (Dk.mk d.safe d.loose (-1) d.down)).1).fuse), .bool (((flush_m (Dk.mk d.safe d.loose (-1) d.down)).1).down)]) (old := #[dv0, dv1, .int .i64 (-1), .bool (d.down)]) (new := #[v25, v26, .int .i64 (((flush_m (Dk.mk d.safe d.loose (-1) d.down)).1).fuse), .bool (((flush_m (Dk.mk d.safe d.loose (-1) d.down)).1).down)]) hm33 rfl rfl rfl rfl rfl (by exact sz_25) (show 0 + 4 ≤ 4 from by decide) (by rw [Array.all_eq_true_iff_forall_mem]; intro x hx; simp only [Value.cells, List.mem_toArray, List.mem_cons, List.not_mem_nil, or_false] at hx; rcases hx with rfl | rfl | rfl | rfl <;> first | rfl | assumption) rfl (fun w37 (hm38 : Mm none (fun _ => True) w w37 [.see (DkR d dv0 dv1) Fd, .see (Rs eWr 2 l lv0) Fl, .see (Rs eB 1 fates fatesv0) Ffates, .blk g4 #[v25, v26, .int .i64 (((flush_m (Dk.mk d.safe d.loose (-1) d.down)).1).fuse), .bool (((flush_m (Dk.mk d.safe d.loose (-1) d.down)).1).down)] 25, .see (DkR ((flush_m (Dk.mk d.safe d.loose (-1) d.down)).1) v25 v26) F28]) => ?_))
  refine lvw 7 (.int .i64 ((flush_m (Dk.mk d.safe d.loose (-1) d.down)).2)) rfl rfl (run_as rfl rfl) ?_
  simp only [nz1, nz2, nz3]
  refine wpList_nil ?_
  refine then_n (hK22 _ _ ?_)
  refine wp_seq_k (fun K41 hK41 => ?_)
  refine wp_region_lit ?_
  refine lvw 31 (.agg #[v25, v26, .int .i64 (((flush_m (Dk.mk d.safe d.loose (-1) d.down)).1).fuse), .bool (((flush_m (Dk.mk d.safe d.loose (-1) d.down)).1).down)]) rfl rfl (r_whole (hm38.at 3 rfl) Try.underlying25 rfl (by exact sz_25) rfl rfl) ?_
  simp only [nz1, nz2, nz3]
  refine lst rfl (m_alloc (c := #[.slice none 0 0, .slice none 0 0, .int .i64 0, .bool false]) (T := 25) hm38 8 rfl (by unfold execOp; go_simp; try rfl) (fun g44 w42 (hm43 : Mm none (fun _ => True) w w42 [.see (DkR d dv0 dv1) Fd, .see (Rs eWr 2 l lv0) Fl, .see (Rs eB 1 fates fatesv0) Ffates, .blk g4 #[v25, v26, .int .i64 (((flush_m (Dk.mk d.safe d.loose (-1) d.down)).1).fuse), .bool (((flush_m (Dk.mk d.safe d.loose (-1) d.down)).1).down)] 25, .see (DkR ((flush_m (Dk.mk d.safe d.loose (-1) d.down)).1) v25 v26) F28, .blk g44 #[.slice none 0 0, .slice none 0 0, .int .i64 0, .bool false] 25]) => ?_))
  simp only [nz1, nz2, nz3]
  have ho47 := (rd_one ((hm43.see 4 rfl).1))
  have ho48 := (rd_one ((hm43.see 4 rfl).2))
  refine lst rfl (m_store 5 25 _ _ 0 (.agg #[v25, v26, .int .i64 (((flush_m (Dk.mk d.safe d.loose (-1) d.down)).1).fuse), .bool (((flush_m (Dk.mk d.safe d.loose (-1) d.down)).1).down)]) (old := #[.slice none 0 0, .slice none 0 0, .int .i64 0, .bool false]) (new := #[v25, v26, .int .i64 (((flush_m (Dk.mk d.safe d.loose (-1) d.down)).1).fuse), .bool (((flush_m (Dk.mk d.safe d.loose (-1) d.down)).1).down)]) hm43 rfl rfl rfl rfl rfl (by exact sz_25) (show 0 + 4 ≤ 4 from by decide) (by rw [Array.all_eq_true_iff_forall_mem]; intro x hx; simp only [Value.cells, List.mem_toArray, List.mem_cons, List.not_mem_nil, or_false] at hx; rcases hx with rfl | rfl | rfl | rfl <;> first | rfl | assumption) rfl (fun w45 (hm46 : Mm none (fun _ => True) w w45 [.see (DkR d dv0 dv1) Fd, .see (Rs eWr 2 l lv0) Fl, .see (Rs eB 1 fates fatesv0) Ffates, .blk g4 #[v25, v26, .int .i64 (((flush_m (Dk.mk d.safe d.loose (-1) d.down)).1).fuse), .bool (((flush_m (Dk.mk d.safe d.loose (-1) d.down)).1).down)] 25, .see (DkR ((flush_m (Dk.mk d.safe d.loose (-1) d.down)).1) v25 v26) F28, .blk g44 #[v25, v26, .int .i64 (((flush_m (Dk.mk d.safe d.loose (-1) d.down)).1).fuse), .bool (((flush_m (Dk.mk d.safe d.loose (-1) d.down)).1).down)] 25]) => ?_))
  refine wpList_nil ?_
  refine then_n (hK41 _ _ ?_)
  refine wp_seq_k (fun K49 hK49 => ?_)
  refine wp_seq_k (fun K50 hK50 => ?_)
  refine wp_region_lit ?_
  refine lvw 9 (.int .i64 0) rfl rfl (run_as rfl rfl) ?_
  simp only [nz1, nz2, nz3]
  refine wpList_nil ?_
  refine then_n (hK50 _ _ ?_)
  obtain ⟨F62, hm63⟩ : ∃ F62, Mm none (fun _ => True) w w45 [.see (DkR d dv0 dv1) Fd, .see (Rs eWr 2 l lv0) Fl, .see (Rs eB 1 fates fatesv0) Ffates, .blk g4 #[v25, v26, .int .i64 (((flush_m (Dk.mk d.safe d.loose (-1) d.down)).1).fuse), .bool (((flush_m (Dk.mk d.safe d.loose (-1) d.down)).1).down)] 25, .see (DkR ((flush_m (Dk.mk d.safe d.loose (-1) d.down)).1) v25 v26) F28, .blk g44 #[v25, v26, .int .i64 (((flush_m (Dk.mk d.safe d.loose (-1) d.down)).1).fuse), .bool (((flush_m (Dk.mk d.safe d.loose (-1) d.down)).1).down)] 25, .see (Rs eS 1 (((flush_m (Dk.mk d.safe d.loose (-1) d.down)).1).safe) v25) F62] := hm46.derive ((hm46.from 4 rfl).mono (fun _ h => h.1))
  obtain ⟨F65, hm66⟩ : ∃ F65, Mm none (fun _ => True) w w45 [.see (DkR d dv0 dv1) Fd, .see (Rs eWr 2 l lv0) Fl, .see (Rs eB 1 fates fatesv0) Ffates, .blk g4 #[v25, v26, .int .i64 (((flush_m (Dk.mk d.safe d.loose (-1) d.down)).1).fuse), .bool (((flush_m (Dk.mk d.safe d.loose (-1) d.down)).1).down)] 25, .see (DkR ((flush_m (Dk.mk d.safe d.loose (-1) d.down)).1) v25 v26) F28, .blk g44 #[v25, v26, .int .i64 (((flush_m (Dk.mk d.safe d.loose (-1) d.down)).1).fuse), .bool (((flush_m (Dk.mk d.safe d.loose (-1) d.down)).1).down)] 25, .see (Rs eS 1 (((flush_m (Dk.mk d.safe d.loose (-1) d.down)).1).safe) v25) F62, .see (Rs eWr 2 (((flush_m (Dk.mk d.safe d.loose (-1) d.down)).1).loose) v26) F65] := hm63.derive ((hm63.from 4 rfl).mono (fun _ h => h.2))
  refine wp_cutK (fun a' w' => ∃ (y71 : Nat) (y72 : List (List UInt8)) (y75 : List Wr) (y78 : Int) (y79 : Bool) (v73 : Value) (F74 : Nat → Prop) (v76 : Value) (F77 : Nat → Prop) (yu0 : Nat → Value), keeps_m_l0 d l fates ((l.length - 0) + 1) (0, (((flush_m (Dk.mk d.safe d.loose (-1) d.down)).1).safe), (((flush_m (Dk.mk d.safe d.loose (-1) d.down)).1).loose), ((flush_m (Dk.mk d.safe d.loose (-1) d.down)).1).fuse, (((flush_m (Dk.mk d.safe d.loose (-1) d.down)).1).down)) = .inl (y71, y72, y75, y78, y79) ∧ (y72.length ≤ 8796093021952) ∧ (y75.length ≤ d.loose.length + y71) ∧ (y78 ≤ 9223372036854775807) ∧ (y71 ≤ 60) ∧ a' = ⟨#[.agg #[dv0, dv1, .int .i64 (d.fuse), .bool (d.down)], lv0, fatesv0, .pointer (some ⟨g4, 0, none⟩), undef, undef, .bool false, .int .i64 ((flush_m (Dk.mk d.safe d.loose (-1) d.down)).2), .pointer (some ⟨g44, 0, none⟩), .int .i64 ((y71 : Nat) : Int), yu0 0, yu0 1, undef, undef, undef, undef, undef, .agg #[dv0, dv1, .int .i64 (d.fuse), .bool (d.down)], .bool ((right_m d)), .bool false, .bool false, .pointer (some ⟨g4, 3, none⟩), .bool (d.down), .bool (d.down), undef, .pointer (some ⟨g4, 2, none⟩), .tuple #[.agg #[v25, v26, .int .i64 (((flush_m (Dk.mk d.safe d.loose (-1) d.down)).1).fuse), .bool (((flush_m (Dk.mk d.safe d.loose (-1) d.down)).1).down)], .int .i64 ((flush_m (Dk.mk d.safe d.loose (-1) d.down)).2)], .agg #[dv0, dv1, .int .i64 (-1), .bool (d.down)], .tuple #[.agg #[v25, v26, .int .i64 (((flush_m (Dk.mk d.safe d.loose (-1) d.down)).1).fuse), .bool (((flush_m (Dk.mk d.safe d.loose (-1) d.down)).1).down)], .int .i64 ((flush_m (Dk.mk d.safe d.loose (-1) d.down)).2)], .agg #[v25, v26, .int .i64 (((flush_m (Dk.mk d.safe d.loose (-1) d.down)).1).fuse), .bool (((flush_m (Dk.mk d.safe d.loose (-1) d.down)).1).down)], .int .i64 ((flush_m (Dk.mk d.safe d.loose (-1) d.down)).2), .agg #[v25, v26, .int .i64 (((flush_m (Dk.mk d.safe d.loose (-1) d.down)).1).fuse), .bool (((flush_m (Dk.mk d.safe d.loose (-1) d.down)).1).down)], yu0 2, yu0 3, yu0 4, yu0 5, yu0 6, yu0 7, yu0 8, yu0 9, yu0 10, yu0 11, yu0 12, yu0 13, yu0 14, yu0 15, yu0 16, yu0 17, yu0 18, yu0 19, yu0 20, yu0 21, yu0 22, yu0 23, yu0 24, yu0 25, yu0 26, yu0 27, yu0 28, yu0 29, undef, undef, undef, undef, undef, undef, undef, undef, undef, undef, undef, undef, undef, undef, undef, undef, undef, undef, undef, undef, undef, undef, undef, undef, undef, undef, undef, undef, undef, undef, undef, undef, undef, undef, undef, undef, undef, undef, undef, undef, undef, undef, undef, undef, undef, undef, undef, undef, undef, undef, undef, undef, undef, undef, undef, undef, undef, undef, undef, undef, undef, undef, undef, undef, undef, undef, undef, undef, undef, undef, undef, undef, undef, undef, undef, undef, undef, undef, undef, undef, undef, undef, undef, undef, undef], []⟩ ∧ Mm none (fun _ => True) w w' [.see (DkR d dv0 dv1) Fd, .see (Rs eWr 2 l lv0) Fl, .see (Rs eB 1 fates fatesv0) Ffates, .blk g4 #[v25, v26, .int .i64 (((flush_m (Dk.mk d.safe d.loose (-1) d.down)).1).fuse), .bool (((flush_m (Dk.mk d.safe d.loose (-1) d.down)).1).down)] 25, .see (DkR ((flush_m (Dk.mk d.safe d.loose (-1) d.down)).1) v25 v26) F28, .blk g44 #[v73, v76, .int .i64 (y78), .bool (y79)] 25, .see (Rs eS 1 y72 v73) F74, .see (Rs eWr 2 y75 v76) F77]) ?_ ?_
  · refine wp_block ?_
    refine wp_loop_n (fun n' a' w' => ∃ (n68 : Nat) (x51 : Nat) (l52 : List (List UInt8)) (l56 : List Wr) (x60 : Int) (x61 : Bool) (v53 : Value) (F54 : Nat → Prop) (v57 : Value) (F58 : Nat → Prop) (u0 : Nat → Value), n' = n68 ∧ (l.length - x51) < n68 ∧ keeps_m_l0 d l fates ((l.length - 0) + 1) (0, (((flush_m (Dk.mk d.safe d.loose (-1) d.down)).1).safe), (((flush_m (Dk.mk d.safe d.loose (-1) d.down)).1).loose), ((flush_m (Dk.mk d.safe d.loose (-1) d.down)).1).fuse, (((flush_m (Dk.mk d.safe d.loose (-1) d.down)).1).down)) = keeps_m_l0 d l fates n68 (x51, l52, l56, x60, x61) ∧ (l52.length ≤ 8796093021952) ∧ (l56.length ≤ d.loose.length + x51) ∧ (x60 ≤ 9223372036854775807) ∧ (x51 ≤ 60) ∧ a' = ⟨#[.agg #[dv0, dv1, .int .i64 (d.fuse), .bool (d.down)], lv0, fatesv0, .pointer (some ⟨g4, 0, none⟩), undef, undef, .bool false, .int .i64 ((flush_m (Dk.mk d.safe d.loose (-1) d.down)).2), .pointer (some ⟨g44, 0, none⟩), .int .i64 ((x51 : Nat) : Int), u0 0, u0 1, undef, undef, undef, undef, undef, .agg #[dv0, dv1, .int .i64 (d.fuse), .bool (d.down)], .bool ((right_m d)), .bool false, .bool false, .pointer (some ⟨g4, 3, none⟩), .bool (d.down), .bool (d.down), undef, .pointer (some ⟨g4, 2, none⟩), .tuple #[.agg #[v25, v26, .int .i64 (((flush_m (Dk.mk d.safe d.loose (-1) d.down)).1).fuse), .bool (((flush_m (Dk.mk d.safe d.loose (-1) d.down)).1).down)], .int .i64 ((flush_m (Dk.mk d.safe d.loose (-1) d.down)).2)], .agg #[dv0, dv1, .int .i64 (-1), .bool (d.down)], .tuple #[.agg #[v25, v26, .int .i64 (((flush_m (Dk.mk d.safe d.loose (-1) d.down)).1).fuse), .bool (((flush_m (Dk.mk d.safe d.loose (-1) d.down)).1).down)], .int .i64 ((flush_m (Dk.mk d.safe d.loose (-1) d.down)).2)], .agg #[v25, v26, .int .i64 (((flush_m (Dk.mk d.safe d.loose (-1) d.down)).1).fuse), .bool (((flush_m (Dk.mk d.safe d.loose (-1) d.down)).1).down)], .int .i64 ((flush_m (Dk.mk d.safe d.loose (-1) d.down)).2), .agg #[v25, v26, .int .i64 (((flush_m (Dk.mk d.safe d.loose (-1) d.down)).1).fuse), .bool (((flush_m (Dk.mk d.safe d.loose (-1) d.down)).1).down)], u0 2, u0 3, u0 4, u0 5, u0 6, u0 7, u0 8, u0 9, u0 10, u0 11, u0 12, u0 13, u0 14, u0 15, u0 16, u0 17, u0 18, u0 19, u0 20, u0 21, u0 22, u0 23, u0 24, u0 25, u0 26, u0 27, u0 28, u0 29, undef, undef, undef, undef, undef, undef, undef, undef, undef, undef, undef, undef, undef, undef, undef, undef, undef, undef, undef, undef, undef, undef, undef, undef, undef, undef, undef, undef, undef, undef, undef, undef, undef, undef, undef, undef, undef, undef, undef, undef, undef, undef, undef, undef, undef, undef, undef, undef, undef, undef, undef, undef, undef, undef, undef, undef, undef, undef, undef, undef, undef, undef, undef, undef, undef, undef, undef, undef, undef, undef, undef, undef, undef, undef, undef, undef, undef, undef, undef, undef, undef, undef, undef, undef, undef], []⟩ ∧ Mm none (fun _ => True) w w' [.see (DkR d dv0 dv1) Fd, .see (Rs eWr 2 l lv0) Fl, .see (Rs eB 1 fates fatesv0) Ffates, .blk g4 #[v25, v26, .int .i64 (((flush_m (Dk.mk d.safe d.loose (-1) d.down)).1).fuse), .bool (((flush_m (Dk.mk d.safe d.loose (-1) d.down)).1).down)] 25, .see (DkR ((flush_m (Dk.mk d.safe d.loose (-1) d.down)).1) v25 v26) F28, .blk g44 #[v53, v57, .int .i64 (x60), .bool (x61)] 25, .see (Rs eS 1 l52 v53) F54, .see (Rs eWr 2 l56 v57) F58]) ⟨((l.length - 0) + 1), 0, (((flush_m (Dk.mk d.safe d.loose (-1) d.down)).1).safe), (((flush_m (Dk.mk d.safe d.loose (-1) d.down)).1).loose), ((flush_m (Dk.mk d.safe d.loose (-1) d.down)).1).fuse, (((flush_m (Dk.mk d.safe d.loose (-1) d.down)).1).down), v25, F62, v26, F65, (fun qq => bif Nat.blt qq 24 then List.getD [undef, undef, undef, undef, undef, undef, undef, undef, undef, undef, undef, undef, undef, undef, undef, undef, undef, undef, undef, undef, undef, undef, undef, undef] qq undef else List.getD [undef, undef, undef, undef, undef, undef] (qq - 24) undef), rfl, Nat.lt_succ_self _, rfl, (by first | omega | (simp; done) | (simp; omega) | (simp at *; omega)), (by first | omega | (simp; done) | (simp; omega) | (simp at *; omega)), (by first | omega | (simp; done) | (simp; omega) | (simp at *; omega)), (by first | omega | (simp; done) | (simp; omega) | (simp at *; omega)), rfl, hm66⟩ ?_
    rintro n68 _ w81 ⟨_, x51, l52, l56, x60, x61, v53, F54, v57, F58, u0, rfl, hl85, hi70, hls, hll, hfu, hx6, rfl, hm82⟩ R83 hR83
    obtain ⟨k69, rfl⟩ : ∃ k, n68 = k + 1 := ⟨n68 - 1, by omega⟩
    refine wp_seq_k (fun K86 hK86 => ?_)
    refine wp_seq_k (fun K87 hK87 => ?_)
    refine wp_region_lit ?_
    refine lvw 32 (.int .i64 ((x51 : Nat) : Int)) rfl rfl (run_mv rfl rfl) ?_
    simp only [nz1, nz2, nz3]
    refine lvw 33 (lv0) rfl rfl (run_mv rfl rfl) ?_
    simp only [nz1, nz2, nz3]
    refine lvw 34 (.int .i64 ((l.length : Nat) : Int)) rfl rfl (s_len ((hm82.see 1 rfl)) rfl Try.underlying23 rfl) ?_
    simp only [nz1, nz2, nz3]
    refine lvb 35 (x51 < l.length) rfl rfl (r_lss x51 l.length rfl rfl rfl) (fun hs88 => ?_) (fun hs88 => ?_)
    rotate_left
    · simp only [nz1, nz2, nz3]
      refine lvw 36 (.bool false) rfl rfl (run_mv rfl rfl) ?_
      simp only [nz1, nz2, nz3]
      refine lst_skip 37 rfl rfl ?_
      simp only [nz1, nz2, nz3]
      refine lst_skip 38 rfl rfl ?_
      simp only [nz1, nz2, nz3]
      refine lvw 39 (.bool false) rfl rfl (run_pickf rfl rfl rfl) ?_
      simp only [nz1, nz2, nz3]
      refine wpList_nil ?_
      refine then_n (hK87 _ _ ?_)
      refine cond_f rfl ?_
      refine wp_exit ?_
      refine then_x ?_
      refine then_x ?_
      refine blk_x ?_
      refine then_n ?_
      obtain ⟨F168, hm169⟩ : ∃ F168, Mm none (fun _ => True) w w81 [.see (DkR d dv0 dv1) Fd, .see (Rs eWr 2 l lv0) Fl, .see (Rs eB 1 fates fatesv0) Ffates, .blk g4 #[v25, v26, .int .i64 (((flush_m (Dk.mk d.safe d.loose (-1) d.down)).1).fuse), .bool (((flush_m (Dk.mk d.safe d.loose (-1) d.down)).1).down)] 25, .see (DkR ((flush_m (Dk.mk d.safe d.loose (-1) d.down)).1) v25 v26) F28, .blk g44 #[v53, v57, .int .i64 (x60), .bool (x61)] 25, .see (Rs eS 1 l52 v53) F54, .see (Rs eWr 2 l56 v57) F58, .see (Rs eS 1 l52 v53) F168] := hm82.derive (hm82.from 6 rfl)
      obtain ⟨F171, hm172⟩ : ∃ F171, Mm none (fun _ => True) w w81 [.see (DkR d dv0 dv1) Fd, .see (Rs eWr 2 l lv0) Fl, .see (Rs eB 1 fates fatesv0) Ffates, .blk g4 #[v25, v26, .int .i64 (((flush_m (Dk.mk d.safe d.loose (-1) d.down)).1).fuse), .bool (((flush_m (Dk.mk d.safe d.loose (-1) d.down)).1).down)] 25, .see (DkR ((flush_m (Dk.mk d.safe d.loose (-1) d.down)).1) v25 v26) F28, .blk g44 #[v53, v57, .int .i64 (x60), .bool (x61)] 25, .see (Rs eS 1 l52 v53) F54, .see (Rs eWr 2 l56 v57) F58, .see (Rs eS 1 l52 v53) F168, .see (Rs eWr 2 l56 v57) F171] := hm169.derive (hm169.from 7 rfl)
      exact ⟨x51, l52, l56, x60, x61, v53, F168, v57, F171, (fun qq => bif Nat.blt qq 24 then List.getD [u0 0, u0 1, .int .i64 ((x51 : Nat) : Int), lv0, .int .i64 ((l.length : Nat) : Int), .bool false, .bool false, undef, undef, .bool false, u0 10, u0 11, u0 12, u0 13, u0 14, u0 15, u0 16, u0 17, u0 18, u0 19, u0 20, u0 21, u0 22, u0 23] qq undef else List.getD [u0 24, u0 25, u0 26, u0 27, u0 28, u0 29] (qq - 24) undef), (hi70.trans (show keeps_m_b0 d l fates (keeps_m_l0 d l fates k69) x51 l52 l56 x60 x61 = .inl (x51, l52, l56, x60, x61) from by unfold keeps_m_b0; rw [if_neg hs88] <;> rfl)), (by first | omega | (simp; done) | (simp; omega) | (simp at *; omega)), (by first | omega | (simp; done) | (simp; omega) | (simp at *; omega)), (by first | omega | (simp; done) | (simp; omega) | (simp at *; omega)), (by first | omega | (simp; done) | (simp; omega) | (simp at *; omega)), rfl, (Mm.reorder hm172 [0, 1, 2, 3, 4, 5, 8, 9] (by decide) rfl)⟩
    simp only [nz1, nz2, nz3]
    refine lvw 36 (.bool true) rfl rfl (run_mv rfl rfl) ?_
    simp only [nz1, nz2, nz3]
    refine lvw 37 (.int .i64 ((x51 : Nat) : Int)) rfl rfl (run_mv rfl rfl) ?_
    simp only [nz1, nz2, nz3]
    refine lvw 38 (.bool (decide (x51 < 60))) rfl rfl (r_lss x51 60 rfl rfl rfl) ?_
    simp only [nz1, nz2, nz3]
    refine lvw 39 (.bool (decide (x51 < 60))) rfl rfl (run_pick rfl rfl rfl) ?_
    simp only [nz1, nz2, nz3]
    refine wpList_nil ?_
    refine then_n (hK87 _ _ ?_)
    refine cond_d (x51 < 60) rfl (fun hc89 => ?_) (fun hc89 => ?_)
    rotate_left
    · refine wp_exit ?_
      refine then_x ?_
      refine then_x ?_
      refine blk_x ?_
      refine then_n ?_
      obtain ⟨F162, hm163⟩ : ∃ F162, Mm none (fun _ => True) w w81 [.see (DkR d dv0 dv1) Fd, .see (Rs eWr 2 l lv0) Fl, .see (Rs eB 1 fates fatesv0) Ffates, .blk g4 #[v25, v26, .int .i64 (((flush_m (Dk.mk d.safe d.loose (-1) d.down)).1).fuse), .bool (((flush_m (Dk.mk d.safe d.loose (-1) d.down)).1).down)] 25, .see (DkR ((flush_m (Dk.mk d.safe d.loose (-1) d.down)).1) v25 v26) F28, .blk g44 #[v53, v57, .int .i64 (x60), .bool (x61)] 25, .see (Rs eS 1 l52 v53) F54, .see (Rs eWr 2 l56 v57) F58, .see (Rs eS 1 l52 v53) F162] := hm82.derive (hm82.from 6 rfl)
      obtain ⟨F165, hm166⟩ : ∃ F165, Mm none (fun _ => True) w w81 [.see (DkR d dv0 dv1) Fd, .see (Rs eWr 2 l lv0) Fl, .see (Rs eB 1 fates fatesv0) Ffates, .blk g4 #[v25, v26, .int .i64 (((flush_m (Dk.mk d.safe d.loose (-1) d.down)).1).fuse), .bool (((flush_m (Dk.mk d.safe d.loose (-1) d.down)).1).down)] 25, .see (DkR ((flush_m (Dk.mk d.safe d.loose (-1) d.down)).1) v25 v26) F28, .blk g44 #[v53, v57, .int .i64 (x60), .bool (x61)] 25, .see (Rs eS 1 l52 v53) F54, .see (Rs eWr 2 l56 v57) F58, .see (Rs eS 1 l52 v53) F162, .see (Rs eWr 2 l56 v57) F165] := hm163.derive (hm163.from 7 rfl)
      exact ⟨x51, l52, l56, x60, x61, v53, F162, v57, F165, (fun qq => bif Nat.blt qq 24 then List.getD [u0 0, u0 1, .int .i64 ((x51 : Nat) : Int), lv0, .int .i64 ((l.length : Nat) : Int), .bool true, .bool true, .int .i64 ((x51 : Nat) : Int), .bool (decide (x51 < 60)), .bool (decide (x51 < 60)), u0 10, u0 11, u0 12, u0 13, u0 14, u0 15, u0 16, u0 17, u0 18, u0 19, u0 20, u0 21, u0 22, u0 23] qq undef else List.getD [u0 24, u0 25, u0 26, u0 27, u0 28, u0 29] (qq - 24) undef), (hi70.trans (show keeps_m_b0 d l fates (keeps_m_l0 d l fates k69) x51 l52 l56 x60 x61 = .inl (x51, l52, l56, x60, x61) from by unfold keeps_m_b0; rw [if_pos hs88, if_neg hc89] <;> rfl)), (by first | omega | (simp; done) | (simp; omega) | (simp at *; omega)), (by first | omega | (simp; done) | (simp; omega) | (simp at *; omega)), (by first | omega | (simp; done) | (simp; omega) | (simp at *; omega)), (by first | omega | (simp; done) | (simp; omega) | (simp at *; omega)), rfl, (Mm.reorder hm166 [0, 1, 2, 3, 4, 5, 8, 9] (by decide) rfl)⟩
    refine wp_skip ?_
    refine then_n (hK86 _ _ ?_)
    refine wp_seq_k (fun K90 hK90 => ?_)
    refine wp_block ?_
    refine wp_seq_k (fun K91 hK91 => ?_)
    refine wp_mono (Q := fun e a' w' => e = Exit.normal ∧ ∃ (v96 : Value) (v97 : Value) (F99 : Nat → Prop) (g111 : Nat), a' = ⟨#[.agg #[dv0, dv1, .int .i64 (d.fuse), .bool (d.down)], lv0, fatesv0, .pointer (some ⟨g4, 0, none⟩), undef, undef, .bool false, .int .i64 ((flush_m (Dk.mk d.safe d.loose (-1) d.down)).2), .pointer (some ⟨g44, 0, none⟩), .int .i64 ((x51 : Nat) : Int), .pointer (some ⟨g111, 0, none⟩), .int .i64 ((put_m (Dk.mk l52 l56 x60 x61) ((l.getD x51 dWr).at_) ((l.getD x51 dWr).data)).2), undef, undef, undef, undef, undef, .agg #[dv0, dv1, .int .i64 (d.fuse), .bool (d.down)], .bool ((right_m d)), .bool false, .bool false, .pointer (some ⟨g4, 3, none⟩), .bool (d.down), .bool (d.down), undef, .pointer (some ⟨g4, 2, none⟩), .tuple #[.agg #[v25, v26, .int .i64 (((flush_m (Dk.mk d.safe d.loose (-1) d.down)).1).fuse), .bool (((flush_m (Dk.mk d.safe d.loose (-1) d.down)).1).down)], .int .i64 ((flush_m (Dk.mk d.safe d.loose (-1) d.down)).2)], .agg #[dv0, dv1, .int .i64 (-1), .bool (d.down)], .tuple #[.agg #[v25, v26, .int .i64 (((flush_m (Dk.mk d.safe d.loose (-1) d.down)).1).fuse), .bool (((flush_m (Dk.mk d.safe d.loose (-1) d.down)).1).down)], .int .i64 ((flush_m (Dk.mk d.safe d.loose (-1) d.down)).2)], .agg #[v25, v26, .int .i64 (((flush_m (Dk.mk d.safe d.loose (-1) d.down)).1).fuse), .bool (((flush_m (Dk.mk d.safe d.loose (-1) d.down)).1).down)], .int .i64 ((flush_m (Dk.mk d.safe d.loose (-1) d.down)).2), .agg #[v25, v26, .int .i64 (((flush_m (Dk.mk d.safe d.loose (-1) d.down)).1).fuse), .bool (((flush_m (Dk.mk d.safe d.loose (-1) d.down)).1).down)], .int .i64 ((x51 : Nat) : Int), lv0, .int .i64 ((l.length : Nat) : Int), .bool true, .bool true, .int .i64 ((x51 : Nat) : Int), .bool (decide (x51 < 60)), .bool (decide (x51 < 60)), u0 10, u0 11, .tuple #[.agg #[v96, v97, .int .i64 (((put_m (Dk.mk l52 l56 x60 x61) ((l.getD x51 dWr).at_) ((l.getD x51 dWr).data)).1).fuse), .bool (((put_m (Dk.mk l52 l56 x60 x61) ((l.getD x51 dWr).at_) ((l.getD x51 dWr).data)).1).down)], .int .i64 ((put_m (Dk.mk l52 l56 x60 x61) ((l.getD x51 dWr).at_) ((l.getD x51 dWr).data)).2)], .agg #[v53, v57, .int .i64 (x60), .bool (x61)], lv0, .int .i64 ((x51 : Nat) : Int), .pointer (some ⟨(bk lv0), (po lv0 + x51 * 2), none⟩), .pointer (some ⟨(bk lv0), ((po lv0 + x51 * 2) + 0), none⟩), .int .i64 ((l.getD x51 dWr).at_), lv0, .int .i64 ((x51 : Nat) : Int), .pointer (some ⟨(bk lv0), (po lv0 + x51 * 2), none⟩), .pointer (some ⟨(bk lv0), ((po lv0 + x51 * 2) + 1), none⟩), .string (tx ((l.getD x51 dWr).data)), .tuple #[.agg #[v96, v97, .int .i64 (((put_m (Dk.mk l52 l56 x60 x61) ((l.getD x51 dWr).at_) ((l.getD x51 dWr).data)).1).fuse), .bool (((put_m (Dk.mk l52 l56 x60 x61) ((l.getD x51 dWr).at_) ((l.getD x51 dWr).data)).1).down)], .int .i64 ((put_m (Dk.mk l52 l56 x60 x61) ((l.getD x51 dWr).at_) ((l.getD x51 dWr).data)).2)], .agg #[v96, v97, .int .i64 (((put_m (Dk.mk l52 l56 x60 x61) ((l.getD x51 dWr).at_) ((l.getD x51 dWr).data)).1).fuse), .bool (((put_m (Dk.mk l52 l56 x60 x61) ((l.getD x51 dWr).at_) ((l.getD x51 dWr).data)).1).down)], .int .i64 ((put_m (Dk.mk l52 l56 x60 x61) ((l.getD x51 dWr).at_) ((l.getD x51 dWr).data)).2), u0 27, u0 28, u0 29, undef, undef, undef, undef, undef, undef, undef, undef, undef, undef, undef, undef, undef, undef, undef, undef, undef, undef, undef, undef, undef, undef, undef, undef, undef, undef, undef, undef, undef, undef, undef, undef, undef, undef, undef, undef, undef, undef, undef, undef, undef, undef, undef, undef, undef, undef, undef, undef, undef, undef, undef, undef, undef, undef, undef, undef, undef, undef, undef, undef, undef, undef, undef, undef, undef, undef, undef, undef, undef, undef, undef, undef, undef, undef, undef, undef, undef, undef, undef, undef, undef, undef, undef, undef, undef], []⟩ ∧ Mm none (fun _ => True) w w' [.see (DkR d dv0 dv1) Fd, .see (Rs eWr 2 l lv0) Fl, .see (Rs eB 1 fates fatesv0) Ffates, .blk g4 #[v25, v26, .int .i64 (((flush_m (Dk.mk d.safe d.loose (-1) d.down)).1).fuse), .bool (((flush_m (Dk.mk d.safe d.loose (-1) d.down)).1).down)] 25, .see (DkR ((flush_m (Dk.mk d.safe d.loose (-1) d.down)).1) v25 v26) F28, .blk g44 #[v53, v57, .int .i64 (x60), .bool (x61)] 25, .see (Rs eS 1 l52 v53) F54, .see (Rs eWr 2 l56 v57) F58, .see (DkR ((put_m (Dk.mk l52 l56 x60 x61) ((l.getD x51 dWr).at_) ((l.getD x51 dWr).data)).1) v96 v97) F99, .blk g111 #[v96, v97, .int .i64 (((put_m (Dk.mk l52 l56 x60 x61) ((l.getD x51 dWr).at_) ((l.getD x51 dWr).data)).1).fuse), .bool (((put_m (Dk.mk l52 l56 x60 x61) ((l.getD x51 dWr).at_) ((l.getD x51 dWr).data)).1).down)] 25]) ?_ ?_
    · have hm92 := hm82.drew
      refine wp_region_held_drew (S := fun w' => Mem.Blk w' g44 (#[v53, v57, .int .i64 (x60), .bool (x61)]) 25 ∧ Rs eWr 2 l lv0 w') (by kernel_rfl) (⟨hm92.at 5 rfl, ((hm92.see 1 rfl))⟩) (fun _ => ?_)
      generalize w81.drew = w93 at *
      refine Sym.take_at 0 43 (.agg #[v53, v57, .int .i64 (x60), .bool (x61)]) rfl rfl (by kernel_rfl) (by kernel_rfl) (by kernel_rfl) (fun _ _ _ h => nomatch h.1) rfl (fun _ hw => r_whole hw.1 Try.underlying25 rfl (by exact sz_25) rfl rfl) (⟨hm92.at 5 rfl, ((hm92.see 1 rfl))⟩) ?_
      simp only [nz1, nz2, nz3]
      refine Sym.take_at 1 44 (lv0) rfl rfl (by kernel_rfl) (by kernel_rfl) (by kernel_rfl) (fun _ _ _ h => nomatch h.1) rfl (fun _ hw => run_mv rfl rfl) (⟨hm92.at 5 rfl, ((hm92.see 1 rfl))⟩) ?_
      simp only [nz1, nz2, nz3]
      refine Sym.take_at 2 45 (.int .i64 ((x51 : Nat) : Int)) rfl rfl (by kernel_rfl) (by kernel_rfl) (by kernel_rfl) (fun _ _ _ h => nomatch h.1) rfl (fun _ hw => run_mv rfl rfl) (⟨hm92.at 5 rfl, ((hm92.see 1 rfl))⟩) ?_
      simp only [nz1, nz2, nz3]
      refine Sym.take_at 3 46 (.pointer (some ⟨(bk lv0), (po lv0 + x51 * 2), none⟩)) rfl rfl (by kernel_rfl) (by kernel_rfl) (by kernel_rfl) (fun _ _ _ h => nomatch h.1) rfl (fun _ hw => r_ixv ((hm92.see 1 rfl)) x51 (by omega) Try.underlying23 sz_42 rfl rfl rfl) (⟨hm92.at 5 rfl, ((hm92.see 1 rfl))⟩) ?_
      simp only [nz1, nz2, nz3]
      refine Sym.take_at 4 47 (.pointer (some ⟨(bk lv0), ((po lv0 + x51 * 2) + 0), none⟩)) rfl rfl (by kernel_rfl) (by kernel_rfl) (by kernel_rfl) (fun _ _ _ h => nomatch h.1) rfl (fun _ hw => r_fa42_0 (bk lv0) (po lv0 + x51 * 2) rfl rfl) (⟨hm92.at 5 rfl, ((hm92.see 1 rfl))⟩) ?_
      simp only [nz1, nz2, nz3]
      refine Sym.take_at 5 48 (.int .i64 ((l.getD x51 dWr).at_)) rfl rfl (by kernel_rfl) (by kernel_rfl) (by kernel_rfl) (fun _ _ _ h => nomatch h.1) rfl (fun _ hw => r_cellw (Rs.cell hw.2 eWr_len dWr x51 (by omega) 0 _ rfl) Try.underlying3 rfl rfl rfl) (⟨hm92.at 5 rfl, ((hm92.see 1 rfl))⟩) ?_
      simp only [nz1, nz2, nz3]
      refine Sym.take_at 6 49 (lv0) rfl rfl (by kernel_rfl) (by kernel_rfl) (by kernel_rfl) (fun _ _ _ h => nomatch h.1) rfl (fun _ hw => run_mv rfl rfl) (⟨hm92.at 5 rfl, ((hm92.see 1 rfl))⟩) ?_
      simp only [nz1, nz2, nz3]
      refine Sym.take_at 7 50 (.int .i64 ((x51 : Nat) : Int)) rfl rfl (by kernel_rfl) (by kernel_rfl) (by kernel_rfl) (fun _ _ _ h => nomatch h.1) rfl (fun _ hw => run_mv rfl rfl) (⟨hm92.at 5 rfl, ((hm92.see 1 rfl))⟩) ?_
      simp only [nz1, nz2, nz3]
      refine Sym.take_at 8 51 (.pointer (some ⟨(bk lv0), (po lv0 + x51 * 2), none⟩)) rfl rfl (by kernel_rfl) (by kernel_rfl) (by kernel_rfl) (fun _ _ _ h => nomatch h.1) rfl (fun _ hw => r_ixv ((hm92.see 1 rfl)) x51 (by omega) Try.underlying23 sz_42 rfl rfl rfl) (⟨hm92.at 5 rfl, ((hm92.see 1 rfl))⟩) ?_
      simp only [nz1, nz2, nz3]
      refine Sym.take_at 9 52 (.pointer (some ⟨(bk lv0), ((po lv0 + x51 * 2) + 1), none⟩)) rfl rfl (by kernel_rfl) (by kernel_rfl) (by kernel_rfl) (fun _ _ _ h => nomatch h.1) rfl (fun _ hw => r_fa42_1 (bk lv0) (po lv0 + x51 * 2) rfl rfl) (⟨hm92.at 5 rfl, ((hm92.see 1 rfl))⟩) ?_
      simp only [nz1, nz2, nz3]
      refine Sym.take_at 10 53 (.string (tx ((l.getD x51 dWr).data))) rfl rfl (by kernel_rfl) (by kernel_rfl) (by kernel_rfl) (fun _ _ _ h => nomatch h.1) rfl (fun _ hw => r_cellw (Rs.cell hw.2 eWr_len dWr x51 (by omega) 1 _ rfl) Try.underlying9 rfl rfl rfl) (⟨hm92.at 5 rfl, ((hm92.see 1 rfl))⟩) ?_
      simp only [nz1, nz2, nz3]
      refine two_ready 11 15 (by kernel_rfl) ?_ ?_
      · refine opd rfl rfl (m_callx hm92 54 rfl (run_put rfl rfl rfl rfl) (put_any (Dk.mk l52 l56 x60 x61) ((l.getD x51 dWr).at_) ((l.getD x51 dWr).data) v53 v57 (seeS _) _ ((hm92.from 6 rfl).and (hm92.from 7 rfl)) (by first | omega | assumption | decide | (simp; done) | (simp; omega)) (by first | omega | assumption | decide | (simp; done) | (simp; omega)) (by first | omega | assumption | decide | (simp; done) | (simp; omega))) (fun vv100 w94 hR101 hb102 hm95 => ?_))
        obtain ⟨v96, v97, rfl, hg103⟩ := hR101
        obtain ⟨F99, hm104⟩ : ∃ F99, Mm none (fun _ => True) w w94 [.see (DkR d dv0 dv1) Fd, .see (Rs eWr 2 l lv0) Fl, .see (Rs eB 1 fates fatesv0) Ffates, .blk g4 #[v25, v26, .int .i64 (((flush_m (Dk.mk d.safe d.loose (-1) d.down)).1).fuse), .bool (((flush_m (Dk.mk d.safe d.loose (-1) d.down)).1).down)] 25, .see (DkR ((flush_m (Dk.mk d.safe d.loose (-1) d.down)).1) v25 v26) F28, .blk g44 #[v53, v57, .int .i64 (x60), .bool (x61)] 25, .see (Rs eS 1 l52 v53) F54, .see (Rs eWr 2 l56 v57) F58, .see (DkR ((put_m (Dk.mk l52 l56 x60 x61) ((l.getD x51 dWr).at_) ((l.getD x51 dWr).data)).1) v96 v97) F99] := Mm.tookS hm92 hb102 hg103
        clear hm95 hg103 hb102
        have hf105 : (put_m (Dk.mk l52 l56 x60 x61) ((l.getD x51 dWr).at_) ((l.getD x51 dWr).data)).1.safe.length = l52.length := (put_near (Dk.mk l52 l56 x60 x61) ((l.getD x51 dWr).at_) ((l.getD x51 dWr).data)).1
        have hf106 : (put_m (Dk.mk l52 l56 x60 x61) ((l.getD x51 dWr).at_) ((l.getD x51 dWr).data)).1.loose.length ≤ l56.length + 1 := (put_near (Dk.mk l52 l56 x60 x61) ((l.getD x51 dWr).at_) ((l.getD x51 dWr).data)).2.1
        have hf107 : (put_m (Dk.mk l52 l56 x60 x61) ((l.getD x51 dWr).at_) ((l.getD x51 dWr).data)).1.fuse ≤ 9223372036854775807 := (put_near (Dk.mk l52 l56 x60 x61) ((l.getD x51 dWr).at_) ((l.getD x51 dWr).data)).2.2 (show x60 ≤ 9223372036854775807 from (by first | omega | (simp; done) | (simp; omega)))
        have hf108 : (put_m (Dk.mk l52 l56 x60 x61) ((l.getD x51 dWr).at_) ((l.getD x51 dWr).data)).2 ≠ 0 ∨ (0 ≤ (l.getD x51 dWr).at_ ∧ (l.getD x51 dWr).at_ < (l52.length : Int)) := put_at (Dk.mk l52 l56 x60 x61) ((l.getD x51 dWr).at_) ((l.getD x51 dWr).data)
        refine ⟨⟨hm104.at 5 rfl, ((hm104.see 1 rfl))⟩, ?_⟩
        simp only [nz1, nz2, nz3]
        refine Sym.take_at 12 42 (.tuple #[.agg #[v96, v97, .int .i64 (((put_m (Dk.mk l52 l56 x60 x61) ((l.getD x51 dWr).at_) ((l.getD x51 dWr).data)).1).fuse), .bool (((put_m (Dk.mk l52 l56 x60 x61) ((l.getD x51 dWr).at_) ((l.getD x51 dWr).data)).1).down)], .int .i64 ((put_m (Dk.mk l52 l56 x60 x61) ((l.getD x51 dWr).at_) ((l.getD x51 dWr).data)).2)]) rfl rfl (by kernel_rfl) (by kernel_rfl) (by kernel_rfl) (fun _ _ _ h => nomatch h.1) rfl (fun _ hw => run_mv rfl rfl) (⟨hm104.at 5 rfl, ((hm104.see 1 rfl))⟩) ?_
        simp only [nz1, nz2, nz3]
        refine Sym.take_at 13 55 (.agg #[v96, v97, .int .i64 (((put_m (Dk.mk l52 l56 x60 x61) ((l.getD x51 dWr).at_) ((l.getD x51 dWr).data)).1).fuse), .bool (((put_m (Dk.mk l52 l56 x60 x61) ((l.getD x51 dWr).at_) ((l.getD x51 dWr).data)).1).down)]) rfl rfl (by kernel_rfl) (by kernel_rfl) (by kernel_rfl) (fun _ _ _ h => nomatch h.1) rfl (fun _ hw => run_ex rfl rfl rfl) (⟨hm104.at 5 rfl, ((hm104.see 1 rfl))⟩) ?_
        simp only [nz1, nz2, nz3]
        refine Sym.take_at 14 56 (.int .i64 ((put_m (Dk.mk l52 l56 x60 x61) ((l.getD x51 dWr).at_) ((l.getD x51 dWr).data)).2)) rfl rfl (by kernel_rfl) (by kernel_rfl) (by kernel_rfl) (fun _ _ _ h => nomatch h.1) rfl (fun _ hw => run_ex rfl rfl rfl) (⟨hm104.at 5 rfl, ((hm104.see 1 rfl))⟩) ?_
        simp only [nz1, nz2, nz3]
        refine one_ready 15 (by kernel_rfl) ?_
        refine opd rfl rfl (m_alloc (c := #[.slice none 0 0, .slice none 0 0, .int .i64 0, .bool false]) (T := 25) hm104 10 rfl (by unfold execOp; go_simp; try rfl) (fun g111 w109 hm110 => ?_))
        refine ⟨⟨hm110.at 5 rfl, ((hm110.see 1 rfl))⟩, ?_⟩
        simp only [nz1, nz2, nz3]
        refine one_ready 16 (by kernel_rfl) ?_
        have ho114 := (rd_one ((hm110.see 8 rfl).1))
        have ho115 := (rd_one ((hm110.see 8 rfl).2))
        refine opd rfl rfl (m_store 9 25 _ _ 0 (.agg #[v96, v97, .int .i64 (((put_m (Dk.mk l52 l56 x60 x61) ((l.getD x51 dWr).at_) ((l.getD x51 dWr).data)).1).fuse), .bool (((put_m (Dk.mk l52 l56 x60 x61) ((l.getD x51 dWr).at_) ((l.getD x51 dWr).data)).1).down)]) (old := #[.slice none 0 0, .slice none 0 0, .int .i64 0, .bool false]) (new := #[v96, v97, .int .i64 (((put_m (Dk.mk l52 l56 x60 x61) ((l.getD x51 dWr).at_) ((l.getD x51 dWr).data)).1).fuse), .bool (((put_m (Dk.mk l52 l56 x60 x61) ((l.getD x51 dWr).at_) ((l.getD x51 dWr).data)).1).down)]) hm110 rfl rfl rfl rfl rfl (by exact sz_25) (show 0 + 4 ≤ 4 from by decide) (by rw [Array.all_eq_true_iff_forall_mem]; intro x hx; simp only [Value.cells, List.mem_toArray, List.mem_cons, List.not_mem_nil, or_false] at hx; rcases hx with rfl | rfl | rfl | rfl <;> first | rfl | assumption) rfl (fun w112 hm113 => ?_))
        refine ⟨⟨hm113.at 5 rfl, ((hm113.see 1 rfl))⟩, ?_⟩
        refine one_ready 17 (by kernel_rfl) ?_
        refine opd rfl rfl (w_value 11 (.int .i64 ((put_m (Dk.mk l52 l56 x60 x61) ((l.getD x51 dWr).at_) ((l.getD x51 dWr).data)).2)) rfl (run_as rfl rfl) ⟨⟨hm113.at 5 rfl, ((hm113.see 1 rfl))⟩, ?_⟩)
        simp only [nz1, nz2, nz3]
        refine wpAnyH_done (by kernel_rfl) ?_ _
        exact ⟨rfl, v96, v97, F99, g111, rfl, hm113⟩
      · refine opd rfl rfl (m_alloc (c := #[.slice none 0 0, .slice none 0 0, .int .i64 0, .bool false]) (T := 25) hm92 10 rfl (by unfold execOp; go_simp; try rfl) (fun g118 w116 hm117 => ?_))
        refine ⟨⟨hm117.at 5 rfl, ((hm117.see 1 rfl))⟩, ?_⟩
        simp only [nz1, nz2, nz3]
        refine one_ready 11 (by kernel_rfl) ?_
        refine opd rfl rfl (m_callx hm117 54 rfl (run_put rfl rfl rfl rfl) (put_any (Dk.mk l52 l56 x60 x61) ((l.getD x51 dWr).at_) ((l.getD x51 dWr).data) v53 v57 (seeS _) _ ((hm117.from 6 rfl).and (hm117.from 7 rfl)) (by first | omega | assumption | decide | (simp; done) | (simp; omega)) (by first | omega | assumption | decide | (simp; done) | (simp; omega)) (by first | omega | assumption | decide | (simp; done) | (simp; omega))) (fun vv125 w119 hR126 hb127 hm120 => ?_))
        obtain ⟨v121, v122, rfl, hg128⟩ := hR126
        obtain ⟨F124, hm129⟩ : ∃ F124, Mm none (fun _ => True) w w119 [.see (DkR d dv0 dv1) Fd, .see (Rs eWr 2 l lv0) Fl, .see (Rs eB 1 fates fatesv0) Ffates, .blk g4 #[v25, v26, .int .i64 (((flush_m (Dk.mk d.safe d.loose (-1) d.down)).1).fuse), .bool (((flush_m (Dk.mk d.safe d.loose (-1) d.down)).1).down)] 25, .see (DkR ((flush_m (Dk.mk d.safe d.loose (-1) d.down)).1) v25 v26) F28, .blk g44 #[v53, v57, .int .i64 (x60), .bool (x61)] 25, .see (Rs eS 1 l52 v53) F54, .see (Rs eWr 2 l56 v57) F58, .blk g118 #[.slice none 0 0, .slice none 0 0, .int .i64 0, .bool false] 25, .see (DkR ((put_m (Dk.mk l52 l56 x60 x61) ((l.getD x51 dWr).at_) ((l.getD x51 dWr).data)).1) v121 v122) F124] := Mm.tookS hm117 hb127 hg128
        clear hm120 hg128 hb127
        have hf130 : (put_m (Dk.mk l52 l56 x60 x61) ((l.getD x51 dWr).at_) ((l.getD x51 dWr).data)).1.safe.length = l52.length := (put_near (Dk.mk l52 l56 x60 x61) ((l.getD x51 dWr).at_) ((l.getD x51 dWr).data)).1
        have hf131 : (put_m (Dk.mk l52 l56 x60 x61) ((l.getD x51 dWr).at_) ((l.getD x51 dWr).data)).1.loose.length ≤ l56.length + 1 := (put_near (Dk.mk l52 l56 x60 x61) ((l.getD x51 dWr).at_) ((l.getD x51 dWr).data)).2.1
        have hf132 : (put_m (Dk.mk l52 l56 x60 x61) ((l.getD x51 dWr).at_) ((l.getD x51 dWr).data)).1.fuse ≤ 9223372036854775807 := (put_near (Dk.mk l52 l56 x60 x61) ((l.getD x51 dWr).at_) ((l.getD x51 dWr).data)).2.2 (show x60 ≤ 9223372036854775807 from (by first | omega | (simp; done) | (simp; omega)))
        have hf133 : (put_m (Dk.mk l52 l56 x60 x61) ((l.getD x51 dWr).at_) ((l.getD x51 dWr).data)).2 ≠ 0 ∨ (0 ≤ (l.getD x51 dWr).at_ ∧ (l.getD x51 dWr).at_ < (l52.length : Int)) := put_at (Dk.mk l52 l56 x60 x61) ((l.getD x51 dWr).at_) ((l.getD x51 dWr).data)
        refine ⟨⟨hm129.at 5 rfl, ((hm129.see 1 rfl))⟩, ?_⟩
        simp only [nz1, nz2, nz3]
        refine Sym.take_at 12 42 (.tuple #[.agg #[v121, v122, .int .i64 (((put_m (Dk.mk l52 l56 x60 x61) ((l.getD x51 dWr).at_) ((l.getD x51 dWr).data)).1).fuse), .bool (((put_m (Dk.mk l52 l56 x60 x61) ((l.getD x51 dWr).at_) ((l.getD x51 dWr).data)).1).down)], .int .i64 ((put_m (Dk.mk l52 l56 x60 x61) ((l.getD x51 dWr).at_) ((l.getD x51 dWr).data)).2)]) rfl rfl (by kernel_rfl) (by kernel_rfl) (by kernel_rfl) (fun _ _ _ h => nomatch h.1) rfl (fun _ hw => run_mv rfl rfl) (⟨hm129.at 5 rfl, ((hm129.see 1 rfl))⟩) ?_
        simp only [nz1, nz2, nz3]
        refine Sym.take_at 13 55 (.agg #[v121, v122, .int .i64 (((put_m (Dk.mk l52 l56 x60 x61) ((l.getD x51 dWr).at_) ((l.getD x51 dWr).data)).1).fuse), .bool (((put_m (Dk.mk l52 l56 x60 x61) ((l.getD x51 dWr).at_) ((l.getD x51 dWr).data)).1).down)]) rfl rfl (by kernel_rfl) (by kernel_rfl) (by kernel_rfl) (fun _ _ _ h => nomatch h.1) rfl (fun _ hw => run_ex rfl rfl rfl) (⟨hm129.at 5 rfl, ((hm129.see 1 rfl))⟩) ?_
        simp only [nz1, nz2, nz3]
        refine Sym.take_at 14 56 (.int .i64 ((put_m (Dk.mk l52 l56 x60 x61) ((l.getD x51 dWr).at_) ((l.getD x51 dWr).data)).2)) rfl rfl (by kernel_rfl) (by kernel_rfl) (by kernel_rfl) (fun _ _ _ h => nomatch h.1) rfl (fun _ hw => run_ex rfl rfl rfl) (⟨hm129.at 5 rfl, ((hm129.see 1 rfl))⟩) ?_
        simp only [nz1, nz2, nz3]
        refine one_ready 16 (by kernel_rfl) ?_
        have ho136 := (rd_one ((hm129.see 9 rfl).1))
        have ho137 := (rd_one ((hm129.see 9 rfl).2))
        refine opd rfl rfl (m_store 8 25 _ _ 0 (.agg #[v121, v122, .int .i64 (((put_m (Dk.mk l52 l56 x60 x61) ((l.getD x51 dWr).at_) ((l.getD x51 dWr).data)).1).fuse), .bool (((put_m (Dk.mk l52 l56 x60 x61) ((l.getD x51 dWr).at_) ((l.getD x51 dWr).data)).1).down)]) (old := #[.slice none 0 0, .slice none 0 0, .int .i64 0, .bool false]) (new := #[v121, v122, .int .i64 (((put_m (Dk.mk l52 l56 x60 x61) ((l.getD x51 dWr).at_) ((l.getD x51 dWr).data)).1).fuse), .bool (((put_m (Dk.mk l52 l56 x60 x61) ((l.getD x51 dWr).at_) ((l.getD x51 dWr).data)).1).down)]) hm129 rfl rfl rfl rfl rfl (by exact sz_25) (show 0 + 4 ≤ 4 from by decide) (by rw [Array.all_eq_true_iff_forall_mem]; intro x hx; simp only [Value.cells, List.mem_toArray, List.mem_cons, List.not_mem_nil, or_false] at hx; rcases hx with rfl | rfl | rfl | rfl <;> first | rfl | assumption) rfl (fun w134 hm135 => ?_))
        refine ⟨⟨hm135.at 5 rfl, ((hm135.see 1 rfl))⟩, ?_⟩
        refine one_ready 17 (by kernel_rfl) ?_
        refine opd rfl rfl (w_value 11 (.int .i64 ((put_m (Dk.mk l52 l56 x60 x61) ((l.getD x51 dWr).at_) ((l.getD x51 dWr).data)).2)) rfl (run_as rfl rfl) ⟨⟨hm135.at 5 rfl, ((hm135.see 1 rfl))⟩, ?_⟩)
        simp only [nz1, nz2, nz3]
        refine wpAnyH_done (by kernel_rfl) ?_ _
        exact ⟨rfl, v121, v122, F124, g118, rfl, (Mm.reorder hm135 [0, 1, 2, 3, 4, 5, 6, 7, 9, 8] (by decide) rfl)⟩
    clear hm82
    rintro _ _ w138 ⟨rfl, v96, v97, F99, g111, rfl, hm139⟩
    have hf140 : (put_m (Dk.mk l52 l56 x60 x61) ((l.getD x51 dWr).at_) ((l.getD x51 dWr).data)).1.safe.length = l52.length := (put_near (Dk.mk l52 l56 x60 x61) ((l.getD x51 dWr).at_) ((l.getD x51 dWr).data)).1
    have hf141 : (put_m (Dk.mk l52 l56 x60 x61) ((l.getD x51 dWr).at_) ((l.getD x51 dWr).data)).1.loose.length ≤ l56.length + 1 := (put_near (Dk.mk l52 l56 x60 x61) ((l.getD x51 dWr).at_) ((l.getD x51 dWr).data)).2.1
    have hf142 : (put_m (Dk.mk l52 l56 x60 x61) ((l.getD x51 dWr).at_) ((l.getD x51 dWr).data)).1.fuse ≤ 9223372036854775807 := (put_near (Dk.mk l52 l56 x60 x61) ((l.getD x51 dWr).at_) ((l.getD x51 dWr).data)).2.2 (show x60 ≤ 9223372036854775807 from (by first | omega | (simp; done) | (simp; omega)))
    have hf143 : (put_m (Dk.mk l52 l56 x60 x61) ((l.getD x51 dWr).at_) ((l.getD x51 dWr).data)).2 ≠ 0 ∨ (0 ≤ (l.getD x51 dWr).at_ ∧ (l.getD x51 dWr).at_ < (l52.length : Int)) := put_at (Dk.mk l52 l56 x60 x61) ((l.getD x51 dWr).at_) ((l.getD x51 dWr).data)
    refine then_n (hK91 _ _ ?_)
    refine wp_seq_k (fun K144 hK144 => ?_)
    refine wp_region_lit ?_
    refine lvw 57 (.int .i64 ((put_m (Dk.mk l52 l56 x60 x61) ((l.getD x51 dWr).at_) ((l.getD x51 dWr).data)).2)) rfl rfl (run_mv rfl rfl) ?_
    simp only [nz1, nz2, nz3]
    refine lvw 58 (.bool (decide ((put_m (Dk.mk l52 l56 x60 x61) ((l.getD x51 dWr).at_) ((l.getD x51 dWr).data)).2 = 0))) rfl rfl (z_eql ((put_m (Dk.mk l52 l56 x60 x61) ((l.getD x51 dWr).at_) ((l.getD x51 dWr).data)).2) 0 rfl rfl rfl) ?_
    simp only [nz1, nz2, nz3]
    refine wpList_nil ?_
    refine then_n (hK144 _ _ ?_)
    refine cond_d ((put_m (Dk.mk l52 l56 x60 x61) ((l.getD x51 dWr).at_) ((l.getD x51 dWr).data)).2 = 0) rfl (fun hc145 => ?_) (fun hc145 => ?_)
    rotate_left
    · refine wp_skip ?_
      refine blk_n ?_
      refine then_n (hK90 _ _ ?_)
      refine wp_region_lit ?_
      refine lvw 40 (.int .i64 ((x51 : Nat) : Int)) rfl rfl (run_mv rfl rfl) ?_
      simp only [nz1, nz2, nz3]
      refine lvw 41 (.int .i64 (((x51 + 1) : Nat) : Int)) rfl rfl (r_add x51 1 (show (x51 + 1) < 9223372036854775808 from by omega) rfl rfl rfl) ?_
      simp only [nz1, nz2, nz3]
      refine lvw 9 (.int .i64 (((x51 + 1) : Nat) : Int)) rfl rfl (run_as rfl rfl) ?_
      simp only [nz1, nz2, nz3]
      refine wpList_nil ?_
      obtain ⟨F156, hm157⟩ : ∃ F156, Mm none (fun _ => True) w w138 [.see (DkR d dv0 dv1) Fd, .see (Rs eWr 2 l lv0) Fl, .see (Rs eB 1 fates fatesv0) Ffates, .blk g4 #[v25, v26, .int .i64 (((flush_m (Dk.mk d.safe d.loose (-1) d.down)).1).fuse), .bool (((flush_m (Dk.mk d.safe d.loose (-1) d.down)).1).down)] 25, .see (DkR ((flush_m (Dk.mk d.safe d.loose (-1) d.down)).1) v25 v26) F28, .blk g44 #[v53, v57, .int .i64 (x60), .bool (x61)] 25, .see (Rs eS 1 l52 v53) F54, .see (Rs eWr 2 l56 v57) F58, .see (DkR ((put_m (Dk.mk l52 l56 x60 x61) ((l.getD x51 dWr).at_) ((l.getD x51 dWr).data)).1) v96 v97) F99, .blk g111 #[v96, v97, .int .i64 (((put_m (Dk.mk l52 l56 x60 x61) ((l.getD x51 dWr).at_) ((l.getD x51 dWr).data)).1).fuse), .bool (((put_m (Dk.mk l52 l56 x60 x61) ((l.getD x51 dWr).at_) ((l.getD x51 dWr).data)).1).down)] 25, .see (Rs eS 1 l52 v53) F156] := hm139.derive (hm139.from 6 rfl)
      obtain ⟨F159, hm160⟩ : ∃ F159, Mm none (fun _ => True) w w138 [.see (DkR d dv0 dv1) Fd, .see (Rs eWr 2 l lv0) Fl, .see (Rs eB 1 fates fatesv0) Ffates, .blk g4 #[v25, v26, .int .i64 (((flush_m (Dk.mk d.safe d.loose (-1) d.down)).1).fuse), .bool (((flush_m (Dk.mk d.safe d.loose (-1) d.down)).1).down)] 25, .see (DkR ((flush_m (Dk.mk d.safe d.loose (-1) d.down)).1) v25 v26) F28, .blk g44 #[v53, v57, .int .i64 (x60), .bool (x61)] 25, .see (Rs eS 1 l52 v53) F54, .see (Rs eWr 2 l56 v57) F58, .see (DkR ((put_m (Dk.mk l52 l56 x60 x61) ((l.getD x51 dWr).at_) ((l.getD x51 dWr).data)).1) v96 v97) F99, .blk g111 #[v96, v97, .int .i64 (((put_m (Dk.mk l52 l56 x60 x61) ((l.getD x51 dWr).at_) ((l.getD x51 dWr).data)).1).fuse), .bool (((put_m (Dk.mk l52 l56 x60 x61) ((l.getD x51 dWr).at_) ((l.getD x51 dWr).data)).1).down)] 25, .see (Rs eS 1 l52 v53) F156, .see (Rs eWr 2 l56 v57) F159] := hm157.derive (hm157.from 7 rfl)
      refine then_n (hR83 _ _ _ ⟨k69, (x51 + 1), l52, l56, x60, x61, v53, F156, v57, F159, (fun qq => bif Nat.blt qq 24 then List.getD [.pointer (some ⟨g111, 0, none⟩), .int .i64 ((put_m (Dk.mk l52 l56 x60 x61) ((l.getD x51 dWr).at_) ((l.getD x51 dWr).data)).2), .int .i64 ((x51 : Nat) : Int), lv0, .int .i64 ((l.length : Nat) : Int), .bool true, .bool true, .int .i64 ((x51 : Nat) : Int), .bool (decide (x51 < 60)), .bool (decide (x51 < 60)), .int .i64 ((x51 : Nat) : Int), .int .i64 (((x51 + 1) : Nat) : Int), .tuple #[.agg #[v96, v97, .int .i64 (((put_m (Dk.mk l52 l56 x60 x61) ((l.getD x51 dWr).at_) ((l.getD x51 dWr).data)).1).fuse), .bool (((put_m (Dk.mk l52 l56 x60 x61) ((l.getD x51 dWr).at_) ((l.getD x51 dWr).data)).1).down)], .int .i64 ((put_m (Dk.mk l52 l56 x60 x61) ((l.getD x51 dWr).at_) ((l.getD x51 dWr).data)).2)], .agg #[v53, v57, .int .i64 (x60), .bool (x61)], lv0, .int .i64 ((x51 : Nat) : Int), .pointer (some ⟨(bk lv0), (po lv0 + x51 * 2), none⟩), .pointer (some ⟨(bk lv0), ((po lv0 + x51 * 2) + 0), none⟩), .int .i64 ((l.getD x51 dWr).at_), lv0, .int .i64 ((x51 : Nat) : Int), .pointer (some ⟨(bk lv0), (po lv0 + x51 * 2), none⟩), .pointer (some ⟨(bk lv0), ((po lv0 + x51 * 2) + 1), none⟩), .string (tx ((l.getD x51 dWr).data))] qq undef else List.getD [.tuple #[.agg #[v96, v97, .int .i64 (((put_m (Dk.mk l52 l56 x60 x61) ((l.getD x51 dWr).at_) ((l.getD x51 dWr).data)).1).fuse), .bool (((put_m (Dk.mk l52 l56 x60 x61) ((l.getD x51 dWr).at_) ((l.getD x51 dWr).data)).1).down)], .int .i64 ((put_m (Dk.mk l52 l56 x60 x61) ((l.getD x51 dWr).at_) ((l.getD x51 dWr).data)).2)], .agg #[v96, v97, .int .i64 (((put_m (Dk.mk l52 l56 x60 x61) ((l.getD x51 dWr).at_) ((l.getD x51 dWr).data)).1).fuse), .bool (((put_m (Dk.mk l52 l56 x60 x61) ((l.getD x51 dWr).at_) ((l.getD x51 dWr).data)).1).down)], .int .i64 ((put_m (Dk.mk l52 l56 x60 x61) ((l.getD x51 dWr).at_) ((l.getD x51 dWr).data)).2), .int .i64 ((put_m (Dk.mk l52 l56 x60 x61) ((l.getD x51 dWr).at_) ((l.getD x51 dWr).data)).2), .bool (decide ((put_m (Dk.mk l52 l56 x60 x61) ((l.getD x51 dWr).at_) ((l.getD x51 dWr).data)).2 = 0)), u0 29] (qq - 24) undef), rfl, (by first | omega | (simp; omega) | (simp at *; omega)), (hi70.trans (show keeps_m_b0 d l fates (keeps_m_l0 d l fates k69) x51 l52 l56 x60 x61 = keeps_m_l0 d l fates k69 ((x51 + 1), l52, l56, x60, x61) from by unfold keeps_m_b0; rw [if_pos hs88, if_pos hc89, if_neg hc145] <;> rfl)), (by first | omega | (simp; done) | (simp; omega) | (simp at *; omega)), (by first | omega | (simp; done) | (simp; omega) | (simp at *; omega)), (by first | omega | (simp; done) | (simp; omega) | (simp at *; omega)), (by first | omega | (simp; done) | (simp; omega) | (simp at *; omega)), rfl, (Mm.reorder hm160 [0, 1, 2, 3, 4, 5, 10, 11] (by decide) rfl)⟩ ?_)
      omega
    refine wp_region_lit ?_
    refine lvw 59 (.agg #[v96, v97, .int .i64 (((put_m (Dk.mk l52 l56 x60 x61) ((l.getD x51 dWr).at_) ((l.getD x51 dWr).data)).1).fuse), .bool (((put_m (Dk.mk l52 l56 x60 x61) ((l.getD x51 dWr).at_) ((l.getD x51 dWr).data)).1).down)]) rfl rfl (r_whole (hm139.at 9 rfl) Try.underlying25 rfl (by exact sz_25) rfl rfl) ?_
    simp only [nz1, nz2, nz3]
    have ho148 := (rd_one ((hm139.see 8 rfl).1))
    have ho149 := (rd_one ((hm139.see 8 rfl).2))
    refine lst rfl (m_store 5 25 _ _ 0 (.agg #[v96, v97, .int .i64 (((put_m (Dk.mk l52 l56 x60 x61) ((l.getD x51 dWr).at_) ((l.getD x51 dWr).data)).1).fuse), .bool (((put_m (Dk.mk l52 l56 x60 x61) ((l.getD x51 dWr).at_) ((l.getD x51 dWr).data)).1).down)]) (old := #[v53, v57, .int .i64 (x60), .bool (x61)]) (new := #[v96, v97, .int .i64 (((put_m (Dk.mk l52 l56 x60 x61) ((l.getD x51 dWr).at_) ((l.getD x51 dWr).data)).1).fuse), .bool (((put_m (Dk.mk l52 l56 x60 x61) ((l.getD x51 dWr).at_) ((l.getD x51 dWr).data)).1).down)]) hm139 rfl rfl rfl rfl rfl (by exact sz_25) (show 0 + 4 ≤ 4 from by decide) (by rw [Array.all_eq_true_iff_forall_mem]; intro x hx; simp only [Value.cells, List.mem_toArray, List.mem_cons, List.not_mem_nil, or_false] at hx; rcases hx with rfl | rfl | rfl | rfl <;> first | rfl | assumption) rfl (fun w146 (hm147 : Mm none (fun _ => True) w w146 [.see (DkR d dv0 dv1) Fd, .see (Rs eWr 2 l lv0) Fl, .see (Rs eB 1 fates fatesv0) Ffates, .blk g4 #[v25, v26, .int .i64 (((flush_m (Dk.mk d.safe d.loose (-1) d.down)).1).fuse), .bool (((flush_m (Dk.mk d.safe d.loose (-1) d.down)).1).down)] 25, .see (DkR ((flush_m (Dk.mk d.safe d.loose (-1) d.down)).1) v25 v26) F28, .blk g44 #[v96, v97, .int .i64 (((put_m (Dk.mk l52 l56 x60 x61) ((l.getD x51 dWr).at_) ((l.getD x51 dWr).data)).1).fuse), .bool (((put_m (Dk.mk l52 l56 x60 x61) ((l.getD x51 dWr).at_) ((l.getD x51 dWr).data)).1).down)] 25, .see (Rs eS 1 l52 v53) F54, .see (Rs eWr 2 l56 v57) F58, .see (DkR ((put_m (Dk.mk l52 l56 x60 x61) ((l.getD x51 dWr).at_) ((l.getD x51 dWr).data)).1) v96 v97) F99, .blk g111 #[v96, v97, .int .i64 (((put_m (Dk.mk l52 l56 x60 x61) ((l.getD x51 dWr).at_) ((l.getD x51 dWr).data)).1).fuse), .bool (((put_m (Dk.mk l52 l56 x60 x61) ((l.getD x51 dWr).at_) ((l.getD x51 dWr).data)).1).down)] 25]) => ?_))
    refine wpList_nil ?_
    refine blk_n ?_
    refine then_n (hK90 _ _ ?_)
    refine wp_region_lit ?_
    refine lvw 40 (.int .i64 ((x51 : Nat) : Int)) rfl rfl (run_mv rfl rfl) ?_
    simp only [nz1, nz2, nz3]
    refine lvw 41 (.int .i64 (((x51 + 1) : Nat) : Int)) rfl rfl (r_add x51 1 (show (x51 + 1) < 9223372036854775808 from by omega) rfl rfl rfl) ?_
    simp only [nz1, nz2, nz3]
    refine lvw 9 (.int .i64 (((x51 + 1) : Nat) : Int)) rfl rfl (run_as rfl rfl) ?_
    simp only [nz1, nz2, nz3]
    refine wpList_nil ?_
    obtain ⟨F150, hm151⟩ : ∃ F150, Mm none (fun _ => True) w w146 [.see (DkR d dv0 dv1) Fd, .see (Rs eWr 2 l lv0) Fl, .see (Rs eB 1 fates fatesv0) Ffates, .blk g4 #[v25, v26, .int .i64 (((flush_m (Dk.mk d.safe d.loose (-1) d.down)).1).fuse), .bool (((flush_m (Dk.mk d.safe d.loose (-1) d.down)).1).down)] 25, .see (DkR ((flush_m (Dk.mk d.safe d.loose (-1) d.down)).1) v25 v26) F28, .blk g44 #[v96, v97, .int .i64 (((put_m (Dk.mk l52 l56 x60 x61) ((l.getD x51 dWr).at_) ((l.getD x51 dWr).data)).1).fuse), .bool (((put_m (Dk.mk l52 l56 x60 x61) ((l.getD x51 dWr).at_) ((l.getD x51 dWr).data)).1).down)] 25, .see (Rs eS 1 l52 v53) F54, .see (Rs eWr 2 l56 v57) F58, .see (DkR ((put_m (Dk.mk l52 l56 x60 x61) ((l.getD x51 dWr).at_) ((l.getD x51 dWr).data)).1) v96 v97) F99, .blk g111 #[v96, v97, .int .i64 (((put_m (Dk.mk l52 l56 x60 x61) ((l.getD x51 dWr).at_) ((l.getD x51 dWr).data)).1).fuse), .bool (((put_m (Dk.mk l52 l56 x60 x61) ((l.getD x51 dWr).at_) ((l.getD x51 dWr).data)).1).down)] 25, .see (Rs eS 1 (((put_m (Dk.mk l52 l56 x60 x61) ((l.getD x51 dWr).at_) ((l.getD x51 dWr).data)).1).safe) v96) F150] := hm147.derive ((hm147.from 8 rfl).mono (fun _ h => h.1))
    obtain ⟨F153, hm154⟩ : ∃ F153, Mm none (fun _ => True) w w146 [.see (DkR d dv0 dv1) Fd, .see (Rs eWr 2 l lv0) Fl, .see (Rs eB 1 fates fatesv0) Ffates, .blk g4 #[v25, v26, .int .i64 (((flush_m (Dk.mk d.safe d.loose (-1) d.down)).1).fuse), .bool (((flush_m (Dk.mk d.safe d.loose (-1) d.down)).1).down)] 25, .see (DkR ((flush_m (Dk.mk d.safe d.loose (-1) d.down)).1) v25 v26) F28, .blk g44 #[v96, v97, .int .i64 (((put_m (Dk.mk l52 l56 x60 x61) ((l.getD x51 dWr).at_) ((l.getD x51 dWr).data)).1).fuse), .bool (((put_m (Dk.mk l52 l56 x60 x61) ((l.getD x51 dWr).at_) ((l.getD x51 dWr).data)).1).down)] 25, .see (Rs eS 1 l52 v53) F54, .see (Rs eWr 2 l56 v57) F58, .see (DkR ((put_m (Dk.mk l52 l56 x60 x61) ((l.getD x51 dWr).at_) ((l.getD x51 dWr).data)).1) v96 v97) F99, .blk g111 #[v96, v97, .int .i64 (((put_m (Dk.mk l52 l56 x60 x61) ((l.getD x51 dWr).at_) ((l.getD x51 dWr).data)).1).fuse), .bool (((put_m (Dk.mk l52 l56 x60 x61) ((l.getD x51 dWr).at_) ((l.getD x51 dWr).data)).1).down)] 25, .see (Rs eS 1 (((put_m (Dk.mk l52 l56 x60 x61) ((l.getD x51 dWr).at_) ((l.getD x51 dWr).data)).1).safe) v96) F150, .see (Rs eWr 2 (((put_m (Dk.mk l52 l56 x60 x61) ((l.getD x51 dWr).at_) ((l.getD x51 dWr).data)).1).loose) v97) F153] := hm151.derive ((hm151.from 8 rfl).mono (fun _ h => h.2))
    refine then_n (hR83 _ _ _ ⟨k69, (x51 + 1), (((put_m (Dk.mk l52 l56 x60 x61) ((l.getD x51 dWr).at_) ((l.getD x51 dWr).data)).1).safe), (((put_m (Dk.mk l52 l56 x60 x61) ((l.getD x51 dWr).at_) ((l.getD x51 dWr).data)).1).loose), ((put_m (Dk.mk l52 l56 x60 x61) ((l.getD x51 dWr).at_) ((l.getD x51 dWr).data)).1).fuse, (((put_m (Dk.mk l52 l56 x60 x61) ((l.getD x51 dWr).at_) ((l.getD x51 dWr).data)).1).down), v96, F150, v97, F153, (fun qq => bif Nat.blt qq 24 then List.getD [.pointer (some ⟨g111, 0, none⟩), .int .i64 ((put_m (Dk.mk l52 l56 x60 x61) ((l.getD x51 dWr).at_) ((l.getD x51 dWr).data)).2), .int .i64 ((x51 : Nat) : Int), lv0, .int .i64 ((l.length : Nat) : Int), .bool true, .bool true, .int .i64 ((x51 : Nat) : Int), .bool (decide (x51 < 60)), .bool (decide (x51 < 60)), .int .i64 ((x51 : Nat) : Int), .int .i64 (((x51 + 1) : Nat) : Int), .tuple #[.agg #[v96, v97, .int .i64 (((put_m (Dk.mk l52 l56 x60 x61) ((l.getD x51 dWr).at_) ((l.getD x51 dWr).data)).1).fuse), .bool (((put_m (Dk.mk l52 l56 x60 x61) ((l.getD x51 dWr).at_) ((l.getD x51 dWr).data)).1).down)], .int .i64 ((put_m (Dk.mk l52 l56 x60 x61) ((l.getD x51 dWr).at_) ((l.getD x51 dWr).data)).2)], .agg #[v53, v57, .int .i64 (x60), .bool (x61)], lv0, .int .i64 ((x51 : Nat) : Int), .pointer (some ⟨(bk lv0), (po lv0 + x51 * 2), none⟩), .pointer (some ⟨(bk lv0), ((po lv0 + x51 * 2) + 0), none⟩), .int .i64 ((l.getD x51 dWr).at_), lv0, .int .i64 ((x51 : Nat) : Int), .pointer (some ⟨(bk lv0), (po lv0 + x51 * 2), none⟩), .pointer (some ⟨(bk lv0), ((po lv0 + x51 * 2) + 1), none⟩), .string (tx ((l.getD x51 dWr).data))] qq undef else List.getD [.tuple #[.agg #[v96, v97, .int .i64 (((put_m (Dk.mk l52 l56 x60 x61) ((l.getD x51 dWr).at_) ((l.getD x51 dWr).data)).1).fuse), .bool (((put_m (Dk.mk l52 l56 x60 x61) ((l.getD x51 dWr).at_) ((l.getD x51 dWr).data)).1).down)], .int .i64 ((put_m (Dk.mk l52 l56 x60 x61) ((l.getD x51 dWr).at_) ((l.getD x51 dWr).data)).2)], .agg #[v96, v97, .int .i64 (((put_m (Dk.mk l52 l56 x60 x61) ((l.getD x51 dWr).at_) ((l.getD x51 dWr).data)).1).fuse), .bool (((put_m (Dk.mk l52 l56 x60 x61) ((l.getD x51 dWr).at_) ((l.getD x51 dWr).data)).1).down)], .int .i64 ((put_m (Dk.mk l52 l56 x60 x61) ((l.getD x51 dWr).at_) ((l.getD x51 dWr).data)).2), .int .i64 ((put_m (Dk.mk l52 l56 x60 x61) ((l.getD x51 dWr).at_) ((l.getD x51 dWr).data)).2), .bool (decide ((put_m (Dk.mk l52 l56 x60 x61) ((l.getD x51 dWr).at_) ((l.getD x51 dWr).data)).2 = 0)), .agg #[v96, v97, .int .i64 (((put_m (Dk.mk l52 l56 x60 x61) ((l.getD x51 dWr).at_) ((l.getD x51 dWr).data)).1).fuse), .bool (((put_m (Dk.mk l52 l56 x60 x61) ((l.getD x51 dWr).at_) ((l.getD x51 dWr).data)).1).down)]] (qq - 24) undef), rfl, (by first | omega | (simp; omega) | (simp at *; omega)), (hi70.trans (show keeps_m_b0 d l fates (keeps_m_l0 d l fates k69) x51 l52 l56 x60 x61 = keeps_m_l0 d l fates k69 ((x51 + 1), (((put_m (Dk.mk l52 l56 x60 x61) ((l.getD x51 dWr).at_) ((l.getD x51 dWr).data)).1).safe), (((put_m (Dk.mk l52 l56 x60 x61) ((l.getD x51 dWr).at_) ((l.getD x51 dWr).data)).1).loose), ((put_m (Dk.mk l52 l56 x60 x61) ((l.getD x51 dWr).at_) ((l.getD x51 dWr).data)).1).fuse, (((put_m (Dk.mk l52 l56 x60 x61) ((l.getD x51 dWr).at_) ((l.getD x51 dWr).data)).1).down)) from by unfold keeps_m_b0; rw [if_pos hs88, if_pos hc89, if_pos hc145] <;> rfl)), (by first | omega | (simp; done) | (simp; omega) | (simp at *; omega)), (by first | omega | (simp; done) | (simp; omega) | (simp at *; omega)), (by first | omega | (simp; done) | (simp; omega) | (simp at *; omega)), (by first | omega | (simp; done) | (simp; omega) | (simp at *; omega)), rfl, (Mm.reorder hm154 [0, 1, 2, 3, 4, 5, 10, 11] (by decide) rfl)⟩ ?_)
    omega
  rintro _ w174 ⟨y71, y72, y75, y78, y79, v73, F74, v76, F77, yu0, hx80, hls, hll, hfu, hx6, rfl, hm175⟩
  have hq176 : keeps_m d l fates = keeps_m_k0 d l fates y71 y72 y75 y78 y79 := (show keeps_m d l fates = keeps_m_k0 d l fates y71 y72 y75 y78 y79 from by unfold keeps_m; rw [if_neg hs9, if_neg hc14, hx80] <;> rfl)
  refine then_n (hK49 _ _ ?_)
  refine wp_seq_k (fun K177 hK177 => ?_)
  refine wp_region_lit ?_
  refine lvw 61 (.agg #[v73, v76, .int .i64 (y78), .bool (y79)]) rfl rfl (r_whole (hm175.at 5 rfl) Try.underlying25 rfl (by exact sz_25) rfl rfl) ?_
  simp only [nz1, nz2, nz3]
  refine lvw 62 (fatesv0) rfl rfl (run_mv rfl rfl) ?_
  simp only [nz1, nz2, nz3]
  refine lst rfl (m_callx hm175 63 rfl (run_crash rfl rfl rfl rfl) (crash_any (Dk.mk y72 y75 y78 y79) fates (-1) v73 v76 fatesv0 (seeS _) _ ((hm175.from 6 rfl).and (hm175.from 7 rfl)) (hm175.from 2 rfl) (by first | omega | assumption | decide | (simp; done) | (simp; omega)) (by first | omega | assumption | decide | (simp; done) | (simp; omega)) (by first | omega | assumption | decide | (simp; done) | (simp; omega))) (fun vv184 w178 hR185 hb186 hm179 => ?_))
  obtain ⟨v180, v181, rfl, hg187⟩ := hR185
  obtain ⟨F183, hm188⟩ : ∃ F183, Mm none (fun _ => True) w w178 [.see (DkR d dv0 dv1) Fd, .see (Rs eWr 2 l lv0) Fl, .see (Rs eB 1 fates fatesv0) Ffates, .blk g4 #[v25, v26, .int .i64 (((flush_m (Dk.mk d.safe d.loose (-1) d.down)).1).fuse), .bool (((flush_m (Dk.mk d.safe d.loose (-1) d.down)).1).down)] 25, .see (DkR ((flush_m (Dk.mk d.safe d.loose (-1) d.down)).1) v25 v26) F28, .blk g44 #[v73, v76, .int .i64 (y78), .bool (y79)] 25, .see (Rs eS 1 y72 v73) F74, .see (Rs eWr 2 y75 v76) F77, .see (DkR ((crash_m (Dk.mk y72 y75 y78 y79) fates (-1)).1) v180 v181) F183] := Mm.tookS hm175 hb186 hg187
  clear hm179 hg187 hb186
  have hf189 : (crash_m (Dk.mk y72 y75 y78 y79) fates (-1)).1.safe.length = y72.length := (crash_near (Dk.mk y72 y75 y78 y79) fates (-1)).1
  have hf190 : (crash_m (Dk.mk y72 y75 y78 y79) fates (-1)).1.loose.length ≤ y75.length := (crash_near (Dk.mk y72 y75 y78 y79) fates (-1)).2
  simp only [nz1, nz2, nz3]
  refine lvw 60 (.tuple #[.agg #[v180, v181, .int .i64 (((crash_m (Dk.mk y72 y75 y78 y79) fates (-1)).1).fuse), .bool (((crash_m (Dk.mk y72 y75 y78 y79) fates (-1)).1).down)], .int .i64 ((crash_m (Dk.mk y72 y75 y78 y79) fates (-1)).2)]) rfl rfl (run_mv rfl rfl) ?_
  simp only [nz1, nz2, nz3]
  refine lvw 64 (.agg #[v180, v181, .int .i64 (((crash_m (Dk.mk y72 y75 y78 y79) fates (-1)).1).fuse), .bool (((crash_m (Dk.mk y72 y75 y78 y79) fates (-1)).1).down)]) rfl rfl (run_ex rfl rfl rfl) ?_
  simp only [nz1, nz2, nz3]
  refine lvw 65 (.int .i64 ((crash_m (Dk.mk y72 y75 y78 y79) fates (-1)).2)) rfl rfl (run_ex rfl rfl rfl) ?_
  simp only [nz1, nz2, nz3]
  refine lst rfl (m_alloc (c := #[.slice none 0 0, .slice none 0 0, .int .i64 0, .bool false]) (T := 25) hm188 12 rfl (by unfold execOp; go_simp; try rfl) (fun g193 w191 (hm192 : Mm none (fun _ => True) w w191 [.see (DkR d dv0 dv1) Fd, .see (Rs eWr 2 l lv0) Fl, .see (Rs eB 1 fates fatesv0) Ffates, .blk g4 #[v25, v26, .int .i64 (((flush_m (Dk.mk d.safe d.loose (-1) d.down)).1).fuse), .bool (((flush_m (Dk.mk d.safe d.loose (-1) d.down)).1).down)] 25, .see (DkR ((flush_m (Dk.mk d.safe d.loose (-1) d.down)).1) v25 v26) F28, .blk g44 #[v73, v76, .int .i64 (y78), .bool (y79)] 25, .see (Rs eS 1 y72 v73) F74, .see (Rs eWr 2 y75 v76) F77, .see (DkR ((crash_m (Dk.mk y72 y75 y78 y79) fates (-1)).1) v180 v181) F183, .blk g193 #[.slice none 0 0, .slice none 0 0, .int .i64 0, .bool false] 25]) => ?_))
  simp only [nz1, nz2, nz3]
  have ho196 := (rd_one ((hm192.see 8 rfl).1))
  have ho197 := (rd_one ((hm192.see 8 rfl).2))
  refine lst rfl (m_store 9 25 _ _ 0 (.agg #[v180, v181, .int .i64 (((crash_m (Dk.mk y72 y75 y78 y79) fates (-1)).1).fuse), .bool (((crash_m (Dk.mk y72 y75 y78 y79) fates (-1)).1).down)]) (old := #[.slice none 0 0, .slice none 0 0, .int .i64 0, .bool false]) (new := #[v180, v181, .int .i64 (((crash_m (Dk.mk y72 y75 y78 y79) fates (-1)).1).fuse), .bool (((crash_m (Dk.mk y72 y75 y78 y79) fates (-1)).1).down)]) hm192 rfl rfl rfl rfl rfl (by exact sz_25) (show 0 + 4 ≤ 4 from by decide) (by rw [Array.all_eq_true_iff_forall_mem]; intro x hx; simp only [Value.cells, List.mem_toArray, List.mem_cons, List.not_mem_nil, or_false] at hx; rcases hx with rfl | rfl | rfl | rfl <;> first | rfl | assumption) rfl (fun w194 (hm195 : Mm none (fun _ => True) w w194 [.see (DkR d dv0 dv1) Fd, .see (Rs eWr 2 l lv0) Fl, .see (Rs eB 1 fates fatesv0) Ffates, .blk g4 #[v25, v26, .int .i64 (((flush_m (Dk.mk d.safe d.loose (-1) d.down)).1).fuse), .bool (((flush_m (Dk.mk d.safe d.loose (-1) d.down)).1).down)] 25, .see (DkR ((flush_m (Dk.mk d.safe d.loose (-1) d.down)).1) v25 v26) F28, .blk g44 #[v73, v76, .int .i64 (y78), .bool (y79)] 25, .see (Rs eS 1 y72 v73) F74, .see (Rs eWr 2 y75 v76) F77, .see (DkR ((crash_m (Dk.mk y72 y75 y78 y79) fates (-1)).1) v180 v181) F183, .blk g193 #[v180, v181, .int .i64 (((crash_m (Dk.mk y72 y75 y78 y79) fates (-1)).1).fuse), .bool (((crash_m (Dk.mk y72 y75 y78 y79) fates (-1)).1).down)] 25]) => ?_))
  refine lvw 13 (.int .i64 ((crash_m (Dk.mk y72 y75 y78 y79) fates (-1)).2)) rfl rfl (run_as rfl rfl) ?_
  simp only [nz1, nz2, nz3]
  refine wpList_nil ?_
  refine then_n (hK177 _ _ ?_)
  refine wp_seq_k (fun K198 hK198 => ?_)
  refine wp_seq_k (fun K199 hK199 => ?_)
  refine wp_region_lit ?_
  refine lvw 66 (.int .i64 ((flush_m (Dk.mk d.safe d.loose (-1) d.down)).2)) rfl rfl (run_mv rfl rfl) ?_
  simp only [nz1, nz2, nz3]
  refine lvb 67 (¬ (flush_m (Dk.mk d.safe d.loose (-1) d.down)).2 = 0) rfl rfl (z_neq ((flush_m (Dk.mk d.safe d.loose (-1) d.down)).2) 0 rfl rfl rfl) (fun hs200 => ?_) (fun hs200 => ?_)
  · simp only [nz1, nz2, nz3]
    refine lvw 68 (.bool true) rfl rfl (run_mv rfl rfl) ?_
    simp only [nz1, nz2, nz3]
    refine lst_skip 69 rfl rfl ?_
    simp only [nz1, nz2, nz3]
    refine lst_skip 70 rfl rfl ?_
    simp only [nz1, nz2, nz3]
    refine lvw 71 (.bool true) rfl rfl (run_pick rfl rfl rfl) ?_
    simp only [nz1, nz2, nz3]
    refine lvw 72 (.bool true) rfl rfl (run_mv rfl rfl) ?_
    simp only [nz1, nz2, nz3]
    refine lst_skip 73 rfl rfl ?_
    simp only [nz1, nz2, nz3]
    refine lst_skip 74 rfl rfl ?_
    simp only [nz1, nz2, nz3]
    refine lst_skip 75 rfl rfl ?_
    simp only [nz1, nz2, nz3]
    refine lst_skip 76 rfl rfl ?_
    simp only [nz1, nz2, nz3]
    refine lst_skip 77 rfl rfl ?_
    simp only [nz1, nz2, nz3]
    refine lst_skip 78 rfl rfl ?_
    simp only [nz1, nz2, nz3]
    refine lst_skip 79 rfl rfl ?_
    simp only [nz1, nz2, nz3]
    refine lvw 80 (.bool true) rfl rfl (run_pick rfl rfl rfl) ?_
    simp only [nz1, nz2, nz3]
    refine lvw 81 (.bool true) rfl rfl (run_mv rfl rfl) ?_
    simp only [nz1, nz2, nz3]
    refine lst_skip 82 rfl rfl ?_
    simp only [nz1, nz2, nz3]
    refine lst_skip 83 rfl rfl ?_
    simp only [nz1, nz2, nz3]
    refine lst_skip 84 rfl rfl ?_
    simp only [nz1, nz2, nz3]
    refine lst_skip 85 rfl rfl ?_
    simp only [nz1, nz2, nz3]
    refine lvw 86 (.bool true) rfl rfl (run_pick rfl rfl rfl) ?_
    simp only [nz1, nz2, nz3]
    refine lvw 87 (.bool true) rfl rfl (run_mv rfl rfl) ?_
    simp only [nz1, nz2, nz3]
    refine lst_skip 88 rfl rfl ?_
    simp only [nz1, nz2, nz3]
    refine lst_skip 89 rfl rfl ?_
    simp only [nz1, nz2, nz3]
    refine lvw 90 (.bool true) rfl rfl (run_pick rfl rfl rfl) ?_
    simp only [nz1, nz2, nz3]
    refine wpList_nil ?_
    refine then_n (hK199 _ _ ?_)
    refine cond_t rfl ?_
    refine wp_seq_k (fun K201 hK201 => ?_)
    refine wp_region_lit ?_
    refine lvw 6 (.bool false) rfl rfl (run_as rfl rfl) ?_
    simp only [nz1, nz2, nz3]
    refine wpList_nil ?_
    refine then_n (hK201 _ _ ?_)
    refine wp_ret ?_
    refine then_r ?_
    have he202 : keeps_m d l fates = false := (hq176.trans (show keeps_m_k0 d l fates y71 y72 y75 y78 y79 = false from by unfold keeps_m_k0; rw [if_pos hs200] <;> rfl))
    exact ⟨rfl, .bool false, res_t rfl rfl, ⟨by rw [he202], hm195.below⟩⟩
  simp only [nz1, nz2, nz3]
  refine lvw 68 (.bool false) rfl rfl (run_mv rfl rfl) ?_
  simp only [nz1, nz2, nz3]
  refine lvw 69 (.int .i64 ((crash_m (Dk.mk y72 y75 y78 y79) fates (-1)).2)) rfl rfl (run_mv rfl rfl) ?_
  simp only [nz1, nz2, nz3]
  refine lvb 70 (¬ (crash_m (Dk.mk y72 y75 y78 y79) fates (-1)).2 = 0) rfl rfl (z_neq ((crash_m (Dk.mk y72 y75 y78 y79) fates (-1)).2) 0 rfl rfl rfl) (fun hs203 => ?_) (fun hs203 => ?_)
  · simp only [nz1, nz2, nz3]
    refine lvw 71 (.bool true) rfl rfl (run_pickf rfl rfl rfl) ?_
    simp only [nz1, nz2, nz3]
    refine lvw 72 (.bool true) rfl rfl (run_mv rfl rfl) ?_
    simp only [nz1, nz2, nz3]
    refine lst_skip 73 rfl rfl ?_
    simp only [nz1, nz2, nz3]
    refine lst_skip 74 rfl rfl ?_
    simp only [nz1, nz2, nz3]
    refine lst_skip 75 rfl rfl ?_
    simp only [nz1, nz2, nz3]
    refine lst_skip 76 rfl rfl ?_
    simp only [nz1, nz2, nz3]
    refine lst_skip 77 rfl rfl ?_
    simp only [nz1, nz2, nz3]
    refine lst_skip 78 rfl rfl ?_
    simp only [nz1, nz2, nz3]
    refine lst_skip 79 rfl rfl ?_
    simp only [nz1, nz2, nz3]
    refine lvw 80 (.bool true) rfl rfl (run_pick rfl rfl rfl) ?_
    simp only [nz1, nz2, nz3]
    refine lvw 81 (.bool true) rfl rfl (run_mv rfl rfl) ?_
    simp only [nz1, nz2, nz3]
    refine lst_skip 82 rfl rfl ?_
    simp only [nz1, nz2, nz3]
    refine lst_skip 83 rfl rfl ?_
    simp only [nz1, nz2, nz3]
    refine lst_skip 84 rfl rfl ?_
    simp only [nz1, nz2, nz3]
    refine lst_skip 85 rfl rfl ?_
    simp only [nz1, nz2, nz3]
    refine lvw 86 (.bool true) rfl rfl (run_pick rfl rfl rfl) ?_
    simp only [nz1, nz2, nz3]
    refine lvw 87 (.bool true) rfl rfl (run_mv rfl rfl) ?_
    simp only [nz1, nz2, nz3]
    refine lst_skip 88 rfl rfl ?_
    simp only [nz1, nz2, nz3]
    refine lst_skip 89 rfl rfl ?_
    simp only [nz1, nz2, nz3]
    refine lvw 90 (.bool true) rfl rfl (run_pick rfl rfl rfl) ?_
    simp only [nz1, nz2, nz3]
    refine wpList_nil ?_
    refine then_n (hK199 _ _ ?_)
    refine cond_t rfl ?_
    refine wp_seq_k (fun K204 hK204 => ?_)
    refine wp_region_lit ?_
    refine lvw 6 (.bool false) rfl rfl (run_as rfl rfl) ?_
    simp only [nz1, nz2, nz3]
    refine wpList_nil ?_
    refine then_n (hK204 _ _ ?_)
    refine wp_ret ?_
    refine then_r ?_
    have he205 : keeps_m d l fates = false := (hq176.trans (show keeps_m_k0 d l fates y71 y72 y75 y78 y79 = false from by unfold keeps_m_k0; rw [if_neg hs200, if_pos hs203] <;> rfl))
    exact ⟨rfl, .bool false, res_t rfl rfl, ⟨by rw [he205], hm195.below⟩⟩
  simp only [nz1, nz2, nz3]
  refine lvw 71 (.bool false) rfl rfl (run_pickf rfl rfl rfl) ?_
  simp only [nz1, nz2, nz3]
  refine lvw 72 (.bool false) rfl rfl (run_mv rfl rfl) ?_
  simp only [nz1, nz2, nz3]
  refine lvw 73 (.pointer (some ⟨g193, 0, none⟩)) rfl rfl (r_fa25_0 g193 0 rfl rfl) ?_
  simp only [nz1, nz2, nz3]
  refine lvw 74 (v180) rfl rfl (r_load (hm195.at 9 rfl) rfl Try.underlying22 rfl rfl rfl) ?_
  simp only [nz1, nz2, nz3]
  refine lvw 75 (.int .i64 (((((crash_m (Dk.mk y72 y75 y78 y79) fates (-1)).1).safe).length : Nat) : Int)) rfl rfl (s_len ((hm195.see 8 rfl).1) rfl Try.underlying22 rfl) ?_
  simp only [nz1, nz2, nz3]
  refine lvw 76 (.pointer (some ⟨g4, 0, none⟩)) rfl rfl (r_fa25_0 g4 0 rfl rfl) ?_
  simp only [nz1, nz2, nz3]
  refine lvw 77 (v25) rfl rfl (r_load (hm195.at 3 rfl) rfl Try.underlying22 rfl rfl rfl) ?_
  simp only [nz1, nz2, nz3]
  refine lvw 78 (.int .i64 (((((flush_m (Dk.mk d.safe d.loose (-1) d.down)).1).safe).length : Nat) : Int)) rfl rfl (s_len ((hm195.see 4 rfl).1) rfl Try.underlying22 rfl) ?_
  simp only [nz1, nz2, nz3]
  refine lvb 79 (¬ (((crash_m (Dk.mk y72 y75 y78 y79) fates (-1)).1).safe).length = (((flush_m (Dk.mk d.safe d.loose (-1) d.down)).1).safe).length) rfl rfl (r_neq ((((crash_m (Dk.mk y72 y75 y78 y79) fates (-1)).1).safe).length) ((((flush_m (Dk.mk d.safe d.loose (-1) d.down)).1).safe).length) rfl rfl rfl) (fun hs206 => ?_) (fun hs206 => ?_)
  · simp only [nz1, nz2, nz3]
    refine lvw 80 (.bool true) rfl rfl (run_pickf rfl rfl rfl) ?_
    simp only [nz1, nz2, nz3]
    refine lvw 81 (.bool true) rfl rfl (run_mv rfl rfl) ?_
    simp only [nz1, nz2, nz3]
    refine lst_skip 82 rfl rfl ?_
    simp only [nz1, nz2, nz3]
    refine lst_skip 83 rfl rfl ?_
    simp only [nz1, nz2, nz3]
    refine lst_skip 84 rfl rfl ?_
    simp only [nz1, nz2, nz3]
    refine lst_skip 85 rfl rfl ?_
    simp only [nz1, nz2, nz3]
    refine lvw 86 (.bool true) rfl rfl (run_pick rfl rfl rfl) ?_
    simp only [nz1, nz2, nz3]
    refine lvw 87 (.bool true) rfl rfl (run_mv rfl rfl) ?_
    simp only [nz1, nz2, nz3]
    refine lst_skip 88 rfl rfl ?_
    simp only [nz1, nz2, nz3]
    refine lst_skip 89 rfl rfl ?_
    simp only [nz1, nz2, nz3]
    refine lvw 90 (.bool true) rfl rfl (run_pick rfl rfl rfl) ?_
    simp only [nz1, nz2, nz3]
    refine wpList_nil ?_
    refine then_n (hK199 _ _ ?_)
    refine cond_t rfl ?_
    refine wp_seq_k (fun K207 hK207 => ?_)
    refine wp_region_lit ?_
    refine lvw 6 (.bool false) rfl rfl (run_as rfl rfl) ?_
    simp only [nz1, nz2, nz3]
    refine wpList_nil ?_
    refine then_n (hK207 _ _ ?_)
    refine wp_ret ?_
    refine then_r ?_
    have he208 : keeps_m d l fates = false := (hq176.trans (show keeps_m_k0 d l fates y71 y72 y75 y78 y79 = false from by unfold keeps_m_k0; rw [if_neg hs200, if_neg hs203, if_pos hs206] <;> rfl))
    exact ⟨rfl, .bool false, res_t rfl rfl, ⟨by rw [he208], hm195.below⟩⟩
  simp only [nz1, nz2, nz3]
  refine lvw 80 (.bool false) rfl rfl (run_pickf rfl rfl rfl) ?_
  simp only [nz1, nz2, nz3]
  refine lvw 81 (.bool false) rfl rfl (run_mv rfl rfl) ?_
  simp only [nz1, nz2, nz3]
  refine lvw 82 (.pointer (some ⟨g193, 1, none⟩)) rfl rfl (r_fa25_1 g193 0 rfl rfl) ?_
  simp only [nz1, nz2, nz3]
  refine lvw 83 (v181) rfl rfl (r_load (hm195.at 9 rfl) rfl Try.underlying23 rfl rfl rfl) ?_
  simp only [nz1, nz2, nz3]
  refine lvw 84 (.int .i64 (((((crash_m (Dk.mk y72 y75 y78 y79) fates (-1)).1).loose).length : Nat) : Int)) rfl rfl (s_len ((hm195.see 8 rfl).2) rfl Try.underlying23 rfl) ?_
  simp only [nz1, nz2, nz3]
  refine lvb 85 (¬ (((crash_m (Dk.mk y72 y75 y78 y79) fates (-1)).1).loose).length = 0) rfl rfl (r_neq ((((crash_m (Dk.mk y72 y75 y78 y79) fates (-1)).1).loose).length) 0 rfl rfl rfl) (fun hs209 => ?_) (fun hs209 => ?_)
  · simp only [nz1, nz2, nz3]
    refine lvw 86 (.bool true) rfl rfl (run_pickf rfl rfl rfl) ?_
    simp only [nz1, nz2, nz3]
    refine lvw 87 (.bool true) rfl rfl (run_mv rfl rfl) ?_
    simp only [nz1, nz2, nz3]
    refine lst_skip 88 rfl rfl ?_
    simp only [nz1, nz2, nz3]
    refine lst_skip 89 rfl rfl ?_
    simp only [nz1, nz2, nz3]
    refine lvw 90 (.bool true) rfl rfl (run_pick rfl rfl rfl) ?_
    simp only [nz1, nz2, nz3]
    refine wpList_nil ?_
    refine then_n (hK199 _ _ ?_)
    refine cond_t rfl ?_
    refine wp_seq_k (fun K210 hK210 => ?_)
    refine wp_region_lit ?_
    refine lvw 6 (.bool false) rfl rfl (run_as rfl rfl) ?_
    simp only [nz1, nz2, nz3]
    refine wpList_nil ?_
    refine then_n (hK210 _ _ ?_)
    refine wp_ret ?_
    refine then_r ?_
    have he211 : keeps_m d l fates = false := (hq176.trans (show keeps_m_k0 d l fates y71 y72 y75 y78 y79 = false from by unfold keeps_m_k0; rw [if_neg hs200, if_neg hs203, if_neg hs206, if_pos hs209] <;> rfl))
    exact ⟨rfl, .bool false, res_t rfl rfl, ⟨by rw [he211], hm195.below⟩⟩
  simp only [nz1, nz2, nz3]
  refine lvw 86 (.bool false) rfl rfl (run_pickf rfl rfl rfl) ?_
  simp only [nz1, nz2, nz3]
  refine lvw 87 (.bool false) rfl rfl (run_mv rfl rfl) ?_
  simp only [nz1, nz2, nz3]
  refine lvw 88 (.pointer (some ⟨g193, 3, none⟩)) rfl rfl (r_fa25_3 g193 0 rfl rfl) ?_
  simp only [nz1, nz2, nz3]
  refine lvw 89 (.bool (((crash_m (Dk.mk y72 y75 y78 y79) fates (-1)).1).down)) rfl rfl (r_load (hm195.at 9 rfl) rfl Try.underlying4 rfl rfl rfl) ?_
  simp only [nz1, nz2, nz3]
  refine lvw 90 (.bool (((crash_m (Dk.mk y72 y75 y78 y79) fates (-1)).1).down)) rfl rfl (run_pickf rfl rfl rfl) ?_
  simp only [nz1, nz2, nz3]
  refine wpList_nil ?_
  refine then_n (hK199 _ _ ?_)
  refine cond_B (((crash_m (Dk.mk y72 y75 y78 y79) fates (-1)).1).down) rfl (fun hc212 => ?_) (fun hc212 => ?_)
  · refine wp_seq_k (fun K213 hK213 => ?_)
    refine wp_region_lit ?_
    refine lvw 6 (.bool false) rfl rfl (run_as rfl rfl) ?_
    simp only [nz1, nz2, nz3]
    refine wpList_nil ?_
    refine then_n (hK213 _ _ ?_)
    refine wp_ret ?_
    refine then_r ?_
    have he214 : keeps_m d l fates = false := (hq176.trans (show keeps_m_k0 d l fates y71 y72 y75 y78 y79 = false from by unfold keeps_m_k0; rw [if_neg hs200, if_neg hs203, if_neg hs206, if_neg hs209, if_pos hc212] <;> rfl))
    exact ⟨rfl, .bool false, res_t rfl rfl, ⟨by rw [he214], hm195.below⟩⟩
  refine wp_skip ?_
  refine then_n (hK198 _ _ ?_)
  refine wp_seq_k (fun K215 hK215 => ?_)
  refine wp_seq_k (fun K216 hK216 => ?_)
  refine wp_region_lit ?_
  refine lvw 14 (.int .i64 0) rfl rfl (run_as rfl rfl) ?_
  simp only [nz1, nz2, nz3]
  refine wpList_nil ?_
  refine then_n (hK216 _ _ ?_)
  refine wp_cutK (fun a' w' => ∃ (y221 : Nat) (yu1 : Nat → Value), keeps_m_l1 d l fates y71 y72 y75 y78 y79 (((((crash_m (Dk.mk y72 y75 y78 y79) fates (-1)).1).safe).length - 0) + 1) 0 = .inl y221 ∧ a' = ⟨#[.agg #[dv0, dv1, .int .i64 (d.fuse), .bool (d.down)], lv0, fatesv0, .pointer (some ⟨g4, 0, none⟩), undef, undef, yu1 0, .int .i64 ((flush_m (Dk.mk d.safe d.loose (-1) d.down)).2), .pointer (some ⟨g44, 0, none⟩), .int .i64 ((y71 : Nat) : Int), yu0 0, yu0 1, .pointer (some ⟨g193, 0, none⟩), .int .i64 ((crash_m (Dk.mk y72 y75 y78 y79) fates (-1)).2), .int .i64 ((y221 : Nat) : Int), yu1 1, yu1 2, .agg #[dv0, dv1, .int .i64 (d.fuse), .bool (d.down)], .bool ((right_m d)), .bool false, .bool false, .pointer (some ⟨g4, 3, none⟩), .bool (d.down), .bool (d.down), undef, .pointer (some ⟨g4, 2, none⟩), .tuple #[.agg #[v25, v26, .int .i64 (((flush_m (Dk.mk d.safe d.loose (-1) d.down)).1).fuse), .bool (((flush_m (Dk.mk d.safe d.loose (-1) d.down)).1).down)], .int .i64 ((flush_m (Dk.mk d.safe d.loose (-1) d.down)).2)], .agg #[dv0, dv1, .int .i64 (-1), .bool (d.down)], .tuple #[.agg #[v25, v26, .int .i64 (((flush_m (Dk.mk d.safe d.loose (-1) d.down)).1).fuse), .bool (((flush_m (Dk.mk d.safe d.loose (-1) d.down)).1).down)], .int .i64 ((flush_m (Dk.mk d.safe d.loose (-1) d.down)).2)], .agg #[v25, v26, .int .i64 (((flush_m (Dk.mk d.safe d.loose (-1) d.down)).1).fuse), .bool (((flush_m (Dk.mk d.safe d.loose (-1) d.down)).1).down)], .int .i64 ((flush_m (Dk.mk d.safe d.loose (-1) d.down)).2), .agg #[v25, v26, .int .i64 (((flush_m (Dk.mk d.safe d.loose (-1) d.down)).1).fuse), .bool (((flush_m (Dk.mk d.safe d.loose (-1) d.down)).1).down)], yu0 2, yu0 3, yu0 4, yu0 5, yu0 6, yu0 7, yu0 8, yu0 9, yu0 10, yu0 11, yu0 12, yu0 13, yu0 14, yu0 15, yu0 16, yu0 17, yu0 18, yu0 19, yu0 20, yu0 21, yu0 22, yu0 23, yu0 24, yu0 25, yu0 26, yu0 27, yu0 28, yu0 29, .tuple #[.agg #[v180, v181, .int .i64 (((crash_m (Dk.mk y72 y75 y78 y79) fates (-1)).1).fuse), .bool (((crash_m (Dk.mk y72 y75 y78 y79) fates (-1)).1).down)], .int .i64 ((crash_m (Dk.mk y72 y75 y78 y79) fates (-1)).2)], .agg #[v73, v76, .int .i64 (y78), .bool (y79)], fatesv0, .tuple #[.agg #[v180, v181, .int .i64 (((crash_m (Dk.mk y72 y75 y78 y79) fates (-1)).1).fuse), .bool (((crash_m (Dk.mk y72 y75 y78 y79) fates (-1)).1).down)], .int .i64 ((crash_m (Dk.mk y72 y75 y78 y79) fates (-1)).2)], .agg #[v180, v181, .int .i64 (((crash_m (Dk.mk y72 y75 y78 y79) fates (-1)).1).fuse), .bool (((crash_m (Dk.mk y72 y75 y78 y79) fates (-1)).1).down)], .int .i64 ((crash_m (Dk.mk y72 y75 y78 y79) fates (-1)).2), .int .i64 ((flush_m (Dk.mk d.safe d.loose (-1) d.down)).2), .bool false, .bool false, .int .i64 ((crash_m (Dk.mk y72 y75 y78 y79) fates (-1)).2), .bool false, .bool false, .bool false, .pointer (some ⟨g193, 0, none⟩), v180, .int .i64 (((((crash_m (Dk.mk y72 y75 y78 y79) fates (-1)).1).safe).length : Nat) : Int), .pointer (some ⟨g4, 0, none⟩), v25, .int .i64 (((((flush_m (Dk.mk d.safe d.loose (-1) d.down)).1).safe).length : Nat) : Int), .bool false, .bool false, .bool false, .pointer (some ⟨g193, 1, none⟩), v181, .int .i64 (((((crash_m (Dk.mk y72 y75 y78 y79) fates (-1)).1).loose).length : Nat) : Int), .bool false, .bool false, .bool false, .pointer (some ⟨g193, 3, none⟩), .bool (((crash_m (Dk.mk y72 y75 y78 y79) fates (-1)).1).down), .bool (((crash_m (Dk.mk y72 y75 y78 y79) fates (-1)).1).down), yu1 3, yu1 4, yu1 5, yu1 6, yu1 7, yu1 8, yu1 9, yu1 10, yu1 11, yu1 12, yu1 13, yu1 14, yu1 15, yu1 16, yu1 17, yu1 18, yu1 19, yu1 20, yu1 21, yu1 22, yu1 23, yu1 24, yu1 25, yu1 26, yu1 27, yu1 28, yu1 29, yu1 30, yu1 31, yu1 32, yu1 33, yu1 34, yu1 35, yu1 36, yu1 37, yu1 38, yu1 39, yu1 40, yu1 41, yu1 42, yu1 43, yu1 44, yu1 45, yu1 46, yu1 47, yu1 48, yu1 49, yu1 50, yu1 51, yu1 52, yu1 53, yu1 54, yu1 55, undef], []⟩ ∧ Mm none (fun _ => True) w w' [.see (DkR d dv0 dv1) Fd, .see (Rs eWr 2 l lv0) Fl, .see (Rs eB 1 fates fatesv0) Ffates, .blk g4 #[v25, v26, .int .i64 (((flush_m (Dk.mk d.safe d.loose (-1) d.down)).1).fuse), .bool (((flush_m (Dk.mk d.safe d.loose (-1) d.down)).1).down)] 25, .see (DkR ((flush_m (Dk.mk d.safe d.loose (-1) d.down)).1) v25 v26) F28, .blk g44 #[v73, v76, .int .i64 (y78), .bool (y79)] 25, .see (Rs eS 1 y72 v73) F74, .see (Rs eWr 2 y75 v76) F77, .see (DkR ((crash_m (Dk.mk y72 y75 y78 y79) fates (-1)).1) v180 v181) F183, .blk g193 #[v180, v181, .int .i64 (((crash_m (Dk.mk y72 y75 y78 y79) fates (-1)).1).fuse), .bool (((crash_m (Dk.mk y72 y75 y78 y79) fates (-1)).1).down)] 25]) ?_ ?_
  · refine wp_block ?_
    refine wp_loop_n (fun n' a' w' => ∃ (n218 : Nat) (x217 : Nat) (u1 : Nat → Value), n' = n218 ∧ ((((crash_m (Dk.mk y72 y75 y78 y79) fates (-1)).1).safe).length - x217) < n218 ∧ keeps_m_l1 d l fates y71 y72 y75 y78 y79 (((((crash_m (Dk.mk y72 y75 y78 y79) fates (-1)).1).safe).length - 0) + 1) 0 = keeps_m_l1 d l fates y71 y72 y75 y78 y79 n218 x217 ∧ a' = ⟨#[.agg #[dv0, dv1, .int .i64 (d.fuse), .bool (d.down)], lv0, fatesv0, .pointer (some ⟨g4, 0, none⟩), undef, undef, u1 0, .int .i64 ((flush_m (Dk.mk d.safe d.loose (-1) d.down)).2), .pointer (some ⟨g44, 0, none⟩), .int .i64 ((y71 : Nat) : Int), yu0 0, yu0 1, .pointer (some ⟨g193, 0, none⟩), .int .i64 ((crash_m (Dk.mk y72 y75 y78 y79) fates (-1)).2), .int .i64 ((x217 : Nat) : Int), u1 1, u1 2, .agg #[dv0, dv1, .int .i64 (d.fuse), .bool (d.down)], .bool ((right_m d)), .bool false, .bool false, .pointer (some ⟨g4, 3, none⟩), .bool (d.down), .bool (d.down), undef, .pointer (some ⟨g4, 2, none⟩), .tuple #[.agg #[v25, v26, .int .i64 (((flush_m (Dk.mk d.safe d.loose (-1) d.down)).1).fuse), .bool (((flush_m (Dk.mk d.safe d.loose (-1) d.down)).1).down)], .int .i64 ((flush_m (Dk.mk d.safe d.loose (-1) d.down)).2)], .agg #[dv0, dv1, .int .i64 (-1), .bool (d.down)], .tuple #[.agg #[v25, v26, .int .i64 (((flush_m (Dk.mk d.safe d.loose (-1) d.down)).1).fuse), .bool (((flush_m (Dk.mk d.safe d.loose (-1) d.down)).1).down)], .int .i64 ((flush_m (Dk.mk d.safe d.loose (-1) d.down)).2)], .agg #[v25, v26, .int .i64 (((flush_m (Dk.mk d.safe d.loose (-1) d.down)).1).fuse), .bool (((flush_m (Dk.mk d.safe d.loose (-1) d.down)).1).down)], .int .i64 ((flush_m (Dk.mk d.safe d.loose (-1) d.down)).2), .agg #[v25, v26, .int .i64 (((flush_m (Dk.mk d.safe d.loose (-1) d.down)).1).fuse), .bool (((flush_m (Dk.mk d.safe d.loose (-1) d.down)).1).down)], yu0 2, yu0 3, yu0 4, yu0 5, yu0 6, yu0 7, yu0 8, yu0 9, yu0 10, yu0 11, yu0 12, yu0 13, yu0 14, yu0 15, yu0 16, yu0 17, yu0 18, yu0 19, yu0 20, yu0 21, yu0 22, yu0 23, yu0 24, yu0 25, yu0 26, yu0 27, yu0 28, yu0 29, .tuple #[.agg #[v180, v181, .int .i64 (((crash_m (Dk.mk y72 y75 y78 y79) fates (-1)).1).fuse), .bool (((crash_m (Dk.mk y72 y75 y78 y79) fates (-1)).1).down)], .int .i64 ((crash_m (Dk.mk y72 y75 y78 y79) fates (-1)).2)], .agg #[v73, v76, .int .i64 (y78), .bool (y79)], fatesv0, .tuple #[.agg #[v180, v181, .int .i64 (((crash_m (Dk.mk y72 y75 y78 y79) fates (-1)).1).fuse), .bool (((crash_m (Dk.mk y72 y75 y78 y79) fates (-1)).1).down)], .int .i64 ((crash_m (Dk.mk y72 y75 y78 y79) fates (-1)).2)], .agg #[v180, v181, .int .i64 (((crash_m (Dk.mk y72 y75 y78 y79) fates (-1)).1).fuse), .bool (((crash_m (Dk.mk y72 y75 y78 y79) fates (-1)).1).down)], .int .i64 ((crash_m (Dk.mk y72 y75 y78 y79) fates (-1)).2), .int .i64 ((flush_m (Dk.mk d.safe d.loose (-1) d.down)).2), .bool false, .bool false, .int .i64 ((crash_m (Dk.mk y72 y75 y78 y79) fates (-1)).2), .bool false, .bool false, .bool false, .pointer (some ⟨g193, 0, none⟩), v180, .int .i64 (((((crash_m (Dk.mk y72 y75 y78 y79) fates (-1)).1).safe).length : Nat) : Int), .pointer (some ⟨g4, 0, none⟩), v25, .int .i64 (((((flush_m (Dk.mk d.safe d.loose (-1) d.down)).1).safe).length : Nat) : Int), .bool false, .bool false, .bool false, .pointer (some ⟨g193, 1, none⟩), v181, .int .i64 (((((crash_m (Dk.mk y72 y75 y78 y79) fates (-1)).1).loose).length : Nat) : Int), .bool false, .bool false, .bool false, .pointer (some ⟨g193, 3, none⟩), .bool (((crash_m (Dk.mk y72 y75 y78 y79) fates (-1)).1).down), .bool (((crash_m (Dk.mk y72 y75 y78 y79) fates (-1)).1).down), u1 3, u1 4, u1 5, u1 6, u1 7, u1 8, u1 9, u1 10, u1 11, u1 12, u1 13, u1 14, u1 15, u1 16, u1 17, u1 18, u1 19, u1 20, u1 21, u1 22, u1 23, u1 24, u1 25, u1 26, u1 27, u1 28, u1 29, u1 30, u1 31, u1 32, u1 33, u1 34, u1 35, u1 36, u1 37, u1 38, u1 39, u1 40, u1 41, u1 42, u1 43, u1 44, u1 45, u1 46, u1 47, u1 48, u1 49, u1 50, u1 51, u1 52, u1 53, u1 54, u1 55, undef], []⟩ ∧ Mm none (fun _ => True) w w' [.see (DkR d dv0 dv1) Fd, .see (Rs eWr 2 l lv0) Fl, .see (Rs eB 1 fates fatesv0) Ffates, .blk g4 #[v25, v26, .int .i64 (((flush_m (Dk.mk d.safe d.loose (-1) d.down)).1).fuse), .bool (((flush_m (Dk.mk d.safe d.loose (-1) d.down)).1).down)] 25, .see (DkR ((flush_m (Dk.mk d.safe d.loose (-1) d.down)).1) v25 v26) F28, .blk g44 #[v73, v76, .int .i64 (y78), .bool (y79)] 25, .see (Rs eS 1 y72 v73) F74, .see (Rs eWr 2 y75 v76) F77, .see (DkR ((crash_m (Dk.mk y72 y75 y78 y79) fates (-1)).1) v180 v181) F183, .blk g193 #[v180, v181, .int .i64 (((crash_m (Dk.mk y72 y75 y78 y79) fates (-1)).1).fuse), .bool (((crash_m (Dk.mk y72 y75 y78 y79) fates (-1)).1).down)] 25]) ⟨(((((crash_m (Dk.mk y72 y75 y78 y79) fates (-1)).1).safe).length - 0) + 1), 0, (fun qq => bif Nat.blt qq 24 then List.getD [.bool false, undef, undef, undef, undef, undef, undef, undef, undef, undef, undef, undef, undef, undef, undef, undef, undef, undef, undef, undef, undef, undef, undef, undef] qq undef else bif Nat.blt qq 48 then List.getD [undef, undef, undef, undef, undef, undef, undef, undef, undef, undef, undef, undef, undef, undef, undef, undef, undef, undef, undef, undef, undef, undef, undef, undef] (qq - 24) undef else List.getD [undef, undef, undef, undef, undef, undef, undef, undef] (qq - 48) undef), rfl, Nat.lt_succ_self _, rfl, rfl, hm195⟩ ?_
    rintro n218 _ w223 ⟨_, x217, u1, rfl, hl227, hi220, rfl, hm224⟩ R225 hR225
    obtain ⟨k219, rfl⟩ : ∃ k, n218 = k + 1 := ⟨n218 - 1, by omega⟩
    refine wp_seq_k (fun K228 hK228 => ?_)
    refine wp_seq_k (fun K229 hK229 => ?_)
    refine wp_region_lit ?_
    refine lvw 91 (.int .i64 ((x217 : Nat) : Int)) rfl rfl (run_mv rfl rfl) ?_
    simp only [nz1, nz2, nz3]
    refine lvw 92 (.pointer (some ⟨g193, 0, none⟩)) rfl rfl (r_fa25_0 g193 0 rfl rfl) ?_
    simp only [nz1, nz2, nz3]
    refine lvw 93 (v180) rfl rfl (r_load (hm224.at 9 rfl) rfl Try.underlying22 rfl rfl rfl) ?_
    simp only [nz1, nz2, nz3]
    refine lvw 94 (.int .i64 (((((crash_m (Dk.mk y72 y75 y78 y79) fates (-1)).1).safe).length : Nat) : Int)) rfl rfl (s_len ((hm224.see 8 rfl).1) rfl Try.underlying22 rfl) ?_
    simp only [nz1, nz2, nz3]
    refine lvw 95 (.bool (decide (x217 < (((crash_m (Dk.mk y72 y75 y78 y79) fates (-1)).1).safe).length))) rfl rfl (r_lss x217 ((((crash_m (Dk.mk y72 y75 y78 y79) fates (-1)).1).safe).length) rfl rfl rfl) ?_
    simp only [nz1, nz2, nz3]
    refine wpList_nil ?_
    refine then_n (hK229 _ _ ?_)
    refine cond_d (x217 < (((crash_m (Dk.mk y72 y75 y78 y79) fates (-1)).1).safe).length) rfl (fun hc230 => ?_) (fun hc230 => ?_)
    rotate_left
    · refine wp_exit ?_
      refine then_x ?_
      refine then_x ?_
      refine blk_x ?_
      refine then_n ?_
      exact ⟨x217, (fun qq => bif Nat.blt qq 24 then List.getD [u1 0, u1 1, u1 2, .int .i64 ((x217 : Nat) : Int), .pointer (some ⟨g193, 0, none⟩), v180, .int .i64 (((((crash_m (Dk.mk y72 y75 y78 y79) fates (-1)).1).safe).length : Nat) : Int), .bool (decide (x217 < (((crash_m (Dk.mk y72 y75 y78 y79) fates (-1)).1).safe).length)), u1 8, u1 9, u1 10, u1 11, u1 12, u1 13, u1 14, u1 15, u1 16, u1 17, u1 18, u1 19, u1 20, u1 21, u1 22, u1 23] qq undef else bif Nat.blt qq 48 then List.getD [u1 24, u1 25, u1 26, u1 27, u1 28, u1 29, u1 30, u1 31, u1 32, u1 33, u1 34, u1 35, u1 36, u1 37, u1 38, u1 39, u1 40, u1 41, u1 42, u1 43, u1 44, u1 45, u1 46, u1 47] (qq - 24) undef else List.getD [u1 48, u1 49, u1 50, u1 51, u1 52, u1 53, u1 54, u1 55] (qq - 48) undef), (hi220.trans (show keeps_m_b1 d l fates y71 y72 y75 y78 y79 (keeps_m_l1 d l fates y71 y72 y75 y78 y79 k219) x217 = .inl x217 from by unfold keeps_m_b1; rw [if_neg hc230] <;> rfl)), rfl, hm224⟩
    refine wp_skip ?_
    refine then_n (hK228 _ _ ?_)
    refine wp_seq_k (fun K231 hK231 => ?_)
    refine wp_block ?_
    refine wp_seq_k (fun K232 hK232 => ?_)
    have hm233 := hm224.drew
    refine wp_region_held_drew (S := fun w' => Mem.Blk w' g193 (#[v180, v181, .int .i64 (((crash_m (Dk.mk y72 y75 y78 y79) fates (-1)).1).fuse), .bool (((crash_m (Dk.mk y72 y75 y78 y79) fates (-1)).1).down)]) 25 ∧ Mem.Blk w' g4 (#[v25, v26, .int .i64 (((flush_m (Dk.mk d.safe d.loose (-1) d.down)).1).fuse), .bool (((flush_m (Dk.mk d.safe d.loose (-1) d.down)).1).down)]) 25 ∧ Rs eS 1 (((crash_m (Dk.mk y72 y75 y78 y79) fates (-1)).1).safe) v180 w' ∧ Rs eS 1 (((flush_m (Dk.mk d.safe d.loose (-1) d.down)).1).safe) v25 w') (by kernel_rfl) (⟨hm233.at 9 rfl, hm233.at 3 rfl, ((hm233.see 8 rfl).1), ((hm233.see 4 rfl).1)⟩) (fun _ => ?_)
    generalize w223.drew = w234 at *
    refine tk 0 98 (.pointer (some ⟨g193, 0, none⟩)) rfl rfl (fun _ hw => r_fa25_0 g193 0 rfl rfl) (⟨hm233.at 9 rfl, hm233.at 3 rfl, ((hm233.see 8 rfl).1), ((hm233.see 4 rfl).1)⟩) ?_
    simp only [nz1, nz2, nz3]
    refine tk 1 99 (v180) rfl rfl (fun _ hw => r_load hw.1 rfl Try.underlying22 rfl rfl rfl) (⟨hm233.at 9 rfl, hm233.at 3 rfl, ((hm233.see 8 rfl).1), ((hm233.see 4 rfl).1)⟩) ?_
    simp only [nz1, nz2, nz3]
    refine tk 2 100 (.int .i64 ((x217 : Nat) : Int)) rfl rfl (fun _ hw => run_mv rfl rfl) (⟨hm233.at 9 rfl, hm233.at 3 rfl, ((hm233.see 8 rfl).1), ((hm233.see 4 rfl).1)⟩) ?_
    simp only [nz1, nz2, nz3]
    refine tk 3 101 (.pointer (some ⟨(bk v180), (po v180 + x217 * 1), none⟩)) rfl rfl (fun _ hw => r_ixv ((hm233.see 8 rfl).1) x217 (by omega) Try.underlying22 sz_9 rfl rfl rfl) (⟨hm233.at 9 rfl, hm233.at 3 rfl, ((hm233.see 8 rfl).1), ((hm233.see 4 rfl).1)⟩) ?_
    simp only [nz1, nz2, nz3]
    refine tk 4 102 (.string (tx ((((crash_m (Dk.mk y72 y75 y78 y79) fates (-1)).1).safe).getD x217 []))) rfl rfl (fun _ hw => r_cellw (Rs.cell hw.2.2.1 eS_len [] x217 (by omega) 0 _ rfl) Try.underlying9 rfl rfl rfl) (⟨hm233.at 9 rfl, hm233.at 3 rfl, ((hm233.see 8 rfl).1), ((hm233.see 4 rfl).1)⟩) ?_
    simp only [nz1, nz2, nz3]
    refine tk 5 103 (.pointer (some ⟨g4, 0, none⟩)) rfl rfl (fun _ hw => r_fa25_0 g4 0 rfl rfl) (⟨hm233.at 9 rfl, hm233.at 3 rfl, ((hm233.see 8 rfl).1), ((hm233.see 4 rfl).1)⟩) ?_
    simp only [nz1, nz2, nz3]
    refine tk 6 104 (v25) rfl rfl (fun _ hw => r_load hw.2.1 rfl Try.underlying22 rfl rfl rfl) (⟨hm233.at 9 rfl, hm233.at 3 rfl, ((hm233.see 8 rfl).1), ((hm233.see 4 rfl).1)⟩) ?_
    simp only [nz1, nz2, nz3]
    refine tk 7 105 (.int .i64 ((x217 : Nat) : Int)) rfl rfl (fun _ hw => run_mv rfl rfl) (⟨hm233.at 9 rfl, hm233.at 3 rfl, ((hm233.see 8 rfl).1), ((hm233.see 4 rfl).1)⟩) ?_
    simp only [nz1, nz2, nz3]
    refine tk 8 106 (.pointer (some ⟨(bk v25), (po v25 + x217 * 1), none⟩)) rfl rfl (fun _ hw => r_ixv ((hm233.see 4 rfl).1) x217 (by omega) Try.underlying22 sz_9 rfl rfl rfl) (⟨hm233.at 9 rfl, hm233.at 3 rfl, ((hm233.see 8 rfl).1), ((hm233.see 4 rfl).1)⟩) ?_
    simp only [nz1, nz2, nz3]
    refine tk 9 107 (.string (tx ((((flush_m (Dk.mk d.safe d.loose (-1) d.down)).1).safe).getD x217 []))) rfl rfl (fun _ hw => r_cellw (Rs.cell hw.2.2.2 eS_len [] x217 (by omega) 0 _ rfl) Try.underlying9 rfl rfl rfl) (⟨hm233.at 9 rfl, hm233.at 3 rfl, ((hm233.see 8 rfl).1), ((hm233.see 4 rfl).1)⟩) ?_
    simp only [nz1, nz2, nz3]
    refine tk 10 108 (.bool (decide (((((crash_m (Dk.mk y72 y75 y78 y79) fates (-1)).1).safe).getD x217 []) = ((((flush_m (Dk.mk d.safe d.loose (-1) d.down)).1).safe).getD x217 [])))) rfl rfl (fun _ hw => t_eql ((((crash_m (Dk.mk y72 y75 y78 y79) fates (-1)).1).safe).getD x217 []) ((((flush_m (Dk.mk d.safe d.loose (-1) d.down)).1).safe).getD x217 []) rfl rfl rfl) (⟨hm233.at 9 rfl, hm233.at 3 rfl, ((hm233.see 8 rfl).1), ((hm233.see 4 rfl).1)⟩) ?_
    simp only [nz1, nz2, nz3]
    refine one_ready 11 (by kernel_rfl) ?_
    refine opd rfl (wanted_none rfl) (w_value 15 (.bool (decide (((((crash_m (Dk.mk y72 y75 y78 y79) fates (-1)).1).safe).getD x217 []) = ((((flush_m (Dk.mk d.safe d.loose (-1) d.down)).1).safe).getD x217 [])))) rfl (run_as rfl rfl) ⟨⟨hm233.at 9 rfl, hm233.at 3 rfl, ((hm233.see 8 rfl).1), ((hm233.see 4 rfl).1)⟩, ?_⟩)
    simp only [nz1, nz2, nz3]
    refine wpAnyH_done (by kernel_rfl) ?_ _
    refine then_n (hK232 _ _ ?_)
    refine wp_seq_k (fun K235 hK235 => ?_)
    refine wp_seq_k (fun K236 hK236 => ?_)
    refine wp_region_lit ?_
    refine lvw 16 (.int .i64 0) rfl rfl (run_as rfl rfl) ?_
    simp only [nz1, nz2, nz3]
    refine wpList_nil ?_
    refine then_n (hK236 _ _ ?_)
    refine wp_cutK (fun a' w' => ∃ (y242 : Bool) (y243 : Nat) (yu2 : Nat → Value), keeps_m_l2 d l fates y71 y72 y75 y78 y79 x217 ((l.length - 0) + 1) ((decide (((((crash_m (Dk.mk y72 y75 y78 y79) fates (-1)).1).safe).getD x217 []) = ((((flush_m (Dk.mk d.safe d.loose (-1) d.down)).1).safe).getD x217 []))), 0) = .inl (y242, y243) ∧ a' = ⟨#[.agg #[dv0, dv1, .int .i64 (d.fuse), .bool (d.down)], lv0, fatesv0, .pointer (some ⟨g4, 0, none⟩), undef, undef, u1 0, .int .i64 ((flush_m (Dk.mk d.safe d.loose (-1) d.down)).2), .pointer (some ⟨g44, 0, none⟩), .int .i64 ((y71 : Nat) : Int), yu0 0, yu0 1, .pointer (some ⟨g193, 0, none⟩), .int .i64 ((crash_m (Dk.mk y72 y75 y78 y79) fates (-1)).2), .int .i64 ((x217 : Nat) : Int), .bool (y242), .int .i64 ((y243 : Nat) : Int), .agg #[dv0, dv1, .int .i64 (d.fuse), .bool (d.down)], .bool ((right_m d)), .bool false, .bool false, .pointer (some ⟨g4, 3, none⟩), .bool (d.down), .bool (d.down), undef, .pointer (some ⟨g4, 2, none⟩), .tuple #[.agg #[v25, v26, .int .i64 (((flush_m (Dk.mk d.safe d.loose (-1) d.down)).1).fuse), .bool (((flush_m (Dk.mk d.safe d.loose (-1) d.down)).1).down)], .int .i64 ((flush_m (Dk.mk d.safe d.loose (-1) d.down)).2)], .agg #[dv0, dv1, .int .i64 (-1), .bool (d.down)], .tuple #[.agg #[v25, v26, .int .i64 (((flush_m (Dk.mk d.safe d.loose (-1) d.down)).1).fuse), .bool (((flush_m (Dk.mk d.safe d.loose (-1) d.down)).1).down)], .int .i64 ((flush_m (Dk.mk d.safe d.loose (-1) d.down)).2)], .agg #[v25, v26, .int .i64 (((flush_m (Dk.mk d.safe d.loose (-1) d.down)).1).fuse), .bool (((flush_m (Dk.mk d.safe d.loose (-1) d.down)).1).down)], .int .i64 ((flush_m (Dk.mk d.safe d.loose (-1) d.down)).2), .agg #[v25, v26, .int .i64 (((flush_m (Dk.mk d.safe d.loose (-1) d.down)).1).fuse), .bool (((flush_m (Dk.mk d.safe d.loose (-1) d.down)).1).down)], yu0 2, yu0 3, yu0 4, yu0 5, yu0 6, yu0 7, yu0 8, yu0 9, yu0 10, yu0 11, yu0 12, yu0 13, yu0 14, yu0 15, yu0 16, yu0 17, yu0 18, yu0 19, yu0 20, yu0 21, yu0 22, yu0 23, yu0 24, yu0 25, yu0 26, yu0 27, yu0 28, yu0 29, .tuple #[.agg #[v180, v181, .int .i64 (((crash_m (Dk.mk y72 y75 y78 y79) fates (-1)).1).fuse), .bool (((crash_m (Dk.mk y72 y75 y78 y79) fates (-1)).1).down)], .int .i64 ((crash_m (Dk.mk y72 y75 y78 y79) fates (-1)).2)], .agg #[v73, v76, .int .i64 (y78), .bool (y79)], fatesv0, .tuple #[.agg #[v180, v181, .int .i64 (((crash_m (Dk.mk y72 y75 y78 y79) fates (-1)).1).fuse), .bool (((crash_m (Dk.mk y72 y75 y78 y79) fates (-1)).1).down)], .int .i64 ((crash_m (Dk.mk y72 y75 y78 y79) fates (-1)).2)], .agg #[v180, v181, .int .i64 (((crash_m (Dk.mk y72 y75 y78 y79) fates (-1)).1).fuse), .bool (((crash_m (Dk.mk y72 y75 y78 y79) fates (-1)).1).down)], .int .i64 ((crash_m (Dk.mk y72 y75 y78 y79) fates (-1)).2), .int .i64 ((flush_m (Dk.mk d.safe d.loose (-1) d.down)).2), .bool false, .bool false, .int .i64 ((crash_m (Dk.mk y72 y75 y78 y79) fates (-1)).2), .bool false, .bool false, .bool false, .pointer (some ⟨g193, 0, none⟩), v180, .int .i64 (((((crash_m (Dk.mk y72 y75 y78 y79) fates (-1)).1).safe).length : Nat) : Int), .pointer (some ⟨g4, 0, none⟩), v25, .int .i64 (((((flush_m (Dk.mk d.safe d.loose (-1) d.down)).1).safe).length : Nat) : Int), .bool false, .bool false, .bool false, .pointer (some ⟨g193, 1, none⟩), v181, .int .i64 (((((crash_m (Dk.mk y72 y75 y78 y79) fates (-1)).1).loose).length : Nat) : Int), .bool false, .bool false, .bool false, .pointer (some ⟨g193, 3, none⟩), .bool (((crash_m (Dk.mk y72 y75 y78 y79) fates (-1)).1).down), .bool (((crash_m (Dk.mk y72 y75 y78 y79) fates (-1)).1).down), .int .i64 ((x217 : Nat) : Int), .pointer (some ⟨g193, 0, none⟩), v180, .int .i64 (((((crash_m (Dk.mk y72 y75 y78 y79) fates (-1)).1).safe).length : Nat) : Int), .bool (decide (x217 < (((crash_m (Dk.mk y72 y75 y78 y79) fates (-1)).1).safe).length)), u1 8, u1 9, .pointer (some ⟨g193, 0, none⟩), v180, .int .i64 ((x217 : Nat) : Int), .pointer (some ⟨(bk v180), (po v180 + x217 * 1), none⟩), .string (tx ((((crash_m (Dk.mk y72 y75 y78 y79) fates (-1)).1).safe).getD x217 [])), .pointer (some ⟨g4, 0, none⟩), v25, .int .i64 ((x217 : Nat) : Int), .pointer (some ⟨(bk v25), (po v25 + x217 * 1), none⟩), .string (tx ((((flush_m (Dk.mk d.safe d.loose (-1) d.down)).1).safe).getD x217 [])), .bool (decide (((((crash_m (Dk.mk y72 y75 y78 y79) fates (-1)).1).safe).getD x217 []) = ((((flush_m (Dk.mk d.safe d.loose (-1) d.down)).1).safe).getD x217 []))), yu2 0, yu2 1, yu2 2, yu2 3, yu2 4, yu2 5, yu2 6, yu2 7, yu2 8, yu2 9, yu2 10, yu2 11, yu2 12, yu2 13, yu2 14, yu2 15, yu2 16, yu2 17, yu2 18, yu2 19, yu2 20, yu2 21, yu2 22, yu2 23, yu2 24, yu2 25, yu2 26, yu2 27, yu2 28, yu2 29, yu2 30, yu2 31, yu2 32, u1 54, u1 55, undef], []⟩ ∧ Mm none (fun _ => True) w w' [.see (DkR d dv0 dv1) Fd, .see (Rs eWr 2 l lv0) Fl, .see (Rs eB 1 fates fatesv0) Ffates, .blk g4 #[v25, v26, .int .i64 (((flush_m (Dk.mk d.safe d.loose (-1) d.down)).1).fuse), .bool (((flush_m (Dk.mk d.safe d.loose (-1) d.down)).1).down)] 25, .see (DkR ((flush_m (Dk.mk d.safe d.loose (-1) d.down)).1) v25 v26) F28, .blk g44 #[v73, v76, .int .i64 (y78), .bool (y79)] 25, .see (Rs eS 1 y72 v73) F74, .see (Rs eWr 2 y75 v76) F77, .see (DkR ((crash_m (Dk.mk y72 y75 y78 y79) fates (-1)).1) v180 v181) F183, .blk g193 #[v180, v181, .int .i64 (((crash_m (Dk.mk y72 y75 y78 y79) fates (-1)).1).fuse), .bool (((crash_m (Dk.mk y72 y75 y78 y79) fates (-1)).1).down)] 25]) ?_ ?_
    · refine wp_block ?_
      refine wp_loop_n (fun n' a' w' => ∃ (n239 : Nat) (x237 : Bool) (x238 : Nat) (u2 : Nat → Value), n' = n239 ∧ (l.length - x238) < n239 ∧ keeps_m_l2 d l fates y71 y72 y75 y78 y79 x217 ((l.length - 0) + 1) ((decide (((((crash_m (Dk.mk y72 y75 y78 y79) fates (-1)).1).safe).getD x217 []) = ((((flush_m (Dk.mk d.safe d.loose (-1) d.down)).1).safe).getD x217 []))), 0) = keeps_m_l2 d l fates y71 y72 y75 y78 y79 x217 n239 (x237, x238) ∧ a' = ⟨#[.agg #[dv0, dv1, .int .i64 (d.fuse), .bool (d.down)], lv0, fatesv0, .pointer (some ⟨g4, 0, none⟩), undef, undef, u1 0, .int .i64 ((flush_m (Dk.mk d.safe d.loose (-1) d.down)).2), .pointer (some ⟨g44, 0, none⟩), .int .i64 ((y71 : Nat) : Int), yu0 0, yu0 1, .pointer (some ⟨g193, 0, none⟩), .int .i64 ((crash_m (Dk.mk y72 y75 y78 y79) fates (-1)).2), .int .i64 ((x217 : Nat) : Int), .bool (x237), .int .i64 ((x238 : Nat) : Int), .agg #[dv0, dv1, .int .i64 (d.fuse), .bool (d.down)], .bool ((right_m d)), .bool false, .bool false, .pointer (some ⟨g4, 3, none⟩), .bool (d.down), .bool (d.down), undef, .pointer (some ⟨g4, 2, none⟩), .tuple #[.agg #[v25, v26, .int .i64 (((flush_m (Dk.mk d.safe d.loose (-1) d.down)).1).fuse), .bool (((flush_m (Dk.mk d.safe d.loose (-1) d.down)).1).down)], .int .i64 ((flush_m (Dk.mk d.safe d.loose (-1) d.down)).2)], .agg #[dv0, dv1, .int .i64 (-1), .bool (d.down)], .tuple #[.agg #[v25, v26, .int .i64 (((flush_m (Dk.mk d.safe d.loose (-1) d.down)).1).fuse), .bool (((flush_m (Dk.mk d.safe d.loose (-1) d.down)).1).down)], .int .i64 ((flush_m (Dk.mk d.safe d.loose (-1) d.down)).2)], .agg #[v25, v26, .int .i64 (((flush_m (Dk.mk d.safe d.loose (-1) d.down)).1).fuse), .bool (((flush_m (Dk.mk d.safe d.loose (-1) d.down)).1).down)], .int .i64 ((flush_m (Dk.mk d.safe d.loose (-1) d.down)).2), .agg #[v25, v26, .int .i64 (((flush_m (Dk.mk d.safe d.loose (-1) d.down)).1).fuse), .bool (((flush_m (Dk.mk d.safe d.loose (-1) d.down)).1).down)], yu0 2, yu0 3, yu0 4, yu0 5, yu0 6, yu0 7, yu0 8, yu0 9, yu0 10, yu0 11, yu0 12, yu0 13, yu0 14, yu0 15, yu0 16, yu0 17, yu0 18, yu0 19, yu0 20, yu0 21, yu0 22, yu0 23, yu0 24, yu0 25, yu0 26, yu0 27, yu0 28, yu0 29, .tuple #[.agg #[v180, v181, .int .i64 (((crash_m (Dk.mk y72 y75 y78 y79) fates (-1)).1).fuse), .bool (((crash_m (Dk.mk y72 y75 y78 y79) fates (-1)).1).down)], .int .i64 ((crash_m (Dk.mk y72 y75 y78 y79) fates (-1)).2)], .agg #[v73, v76, .int .i64 (y78), .bool (y79)], fatesv0, .tuple #[.agg #[v180, v181, .int .i64 (((crash_m (Dk.mk y72 y75 y78 y79) fates (-1)).1).fuse), .bool (((crash_m (Dk.mk y72 y75 y78 y79) fates (-1)).1).down)], .int .i64 ((crash_m (Dk.mk y72 y75 y78 y79) fates (-1)).2)], .agg #[v180, v181, .int .i64 (((crash_m (Dk.mk y72 y75 y78 y79) fates (-1)).1).fuse), .bool (((crash_m (Dk.mk y72 y75 y78 y79) fates (-1)).1).down)], .int .i64 ((crash_m (Dk.mk y72 y75 y78 y79) fates (-1)).2), .int .i64 ((flush_m (Dk.mk d.safe d.loose (-1) d.down)).2), .bool false, .bool false, .int .i64 ((crash_m (Dk.mk y72 y75 y78 y79) fates (-1)).2), .bool false, .bool false, .bool false, .pointer (some ⟨g193, 0, none⟩), v180, .int .i64 (((((crash_m (Dk.mk y72 y75 y78 y79) fates (-1)).1).safe).length : Nat) : Int), .pointer (some ⟨g4, 0, none⟩), v25, .int .i64 (((((flush_m (Dk.mk d.safe d.loose (-1) d.down)).1).safe).length : Nat) : Int), .bool false, .bool false, .bool false, .pointer (some ⟨g193, 1, none⟩), v181, .int .i64 (((((crash_m (Dk.mk y72 y75 y78 y79) fates (-1)).1).loose).length : Nat) : Int), .bool false, .bool false, .bool false, .pointer (some ⟨g193, 3, none⟩), .bool (((crash_m (Dk.mk y72 y75 y78 y79) fates (-1)).1).down), .bool (((crash_m (Dk.mk y72 y75 y78 y79) fates (-1)).1).down), .int .i64 ((x217 : Nat) : Int), .pointer (some ⟨g193, 0, none⟩), v180, .int .i64 (((((crash_m (Dk.mk y72 y75 y78 y79) fates (-1)).1).safe).length : Nat) : Int), .bool (decide (x217 < (((crash_m (Dk.mk y72 y75 y78 y79) fates (-1)).1).safe).length)), u1 8, u1 9, .pointer (some ⟨g193, 0, none⟩), v180, .int .i64 ((x217 : Nat) : Int), .pointer (some ⟨(bk v180), (po v180 + x217 * 1), none⟩), .string (tx ((((crash_m (Dk.mk y72 y75 y78 y79) fates (-1)).1).safe).getD x217 [])), .pointer (some ⟨g4, 0, none⟩), v25, .int .i64 ((x217 : Nat) : Int), .pointer (some ⟨(bk v25), (po v25 + x217 * 1), none⟩), .string (tx ((((flush_m (Dk.mk d.safe d.loose (-1) d.down)).1).safe).getD x217 [])), .bool (decide (((((crash_m (Dk.mk y72 y75 y78 y79) fates (-1)).1).safe).getD x217 []) = ((((flush_m (Dk.mk d.safe d.loose (-1) d.down)).1).safe).getD x217 []))), u2 0, u2 1, u2 2, u2 3, u2 4, u2 5, u2 6, u2 7, u2 8, u2 9, u2 10, u2 11, u2 12, u2 13, u2 14, u2 15, u2 16, u2 17, u2 18, u2 19, u2 20, u2 21, u2 22, u2 23, u2 24, u2 25, u2 26, u2 27, u2 28, u2 29, u2 30, u2 31, u2 32, u1 54, u1 55, undef], []⟩ ∧ Mm none (fun _ => True) w w' [.see (DkR d dv0 dv1) Fd, .see (Rs eWr 2 l lv0) Fl, .see (Rs eB 1 fates fatesv0) Ffates, .blk g4 #[v25, v26, .int .i64 (((flush_m (Dk.mk d.safe d.loose (-1) d.down)).1).fuse), .bool (((flush_m (Dk.mk d.safe d.loose (-1) d.down)).1).down)] 25, .see (DkR ((flush_m (Dk.mk d.safe d.loose (-1) d.down)).1) v25 v26) F28, .blk g44 #[v73, v76, .int .i64 (y78), .bool (y79)] 25, .see (Rs eS 1 y72 v73) F74, .see (Rs eWr 2 y75 v76) F77, .see (DkR ((crash_m (Dk.mk y72 y75 y78 y79) fates (-1)).1) v180 v181) F183, .blk g193 #[v180, v181, .int .i64 (((crash_m (Dk.mk y72 y75 y78 y79) fates (-1)).1).fuse), .bool (((crash_m (Dk.mk y72 y75 y78 y79) fates (-1)).1).down)] 25]) ⟨((l.length - 0) + 1), (decide (((((crash_m (Dk.mk y72 y75 y78 y79) fates (-1)).1).safe).getD x217 []) = ((((flush_m (Dk.mk d.safe d.loose (-1) d.down)).1).safe).getD x217 []))), 0, (fun qq => bif Nat.blt qq 24 then List.getD [u1 21, u1 22, u1 23, u1 24, u1 25, u1 26, u1 27, u1 28, u1 29, u1 30, u1 31, u1 32, u1 33, u1 34, u1 35, u1 36, u1 37, u1 38, u1 39, u1 40, u1 41, u1 42, u1 43, u1 44] qq undef else List.getD [u1 45, u1 46, u1 47, u1 48, u1 49, u1 50, u1 51, u1 52, u1 53] (qq - 24) undef), rfl, Nat.lt_succ_self _, rfl, rfl, hm233⟩ ?_
      rintro n239 _ w245 ⟨_, x237, x238, u2, rfl, hl249, hi241, rfl, hm246⟩ R247 hR247
      obtain ⟨k240, rfl⟩ : ∃ k, n239 = k + 1 := ⟨n239 - 1, by omega⟩
      refine wp_seq_k (fun K250 hK250 => ?_)
      refine wp_seq_k (fun K251 hK251 => ?_)
      refine wp_region_lit ?_
      refine lvw 109 (.int .i64 ((x238 : Nat) : Int)) rfl rfl (run_mv rfl rfl) ?_
      simp only [nz1, nz2, nz3]
      refine lvw 110 (lv0) rfl rfl (run_mv rfl rfl) ?_
      simp only [nz1, nz2, nz3]
      refine lvw 111 (.int .i64 ((l.length : Nat) : Int)) rfl rfl (s_len ((hm246.see 1 rfl)) rfl Try.underlying23 rfl) ?_
      simp only [nz1, nz2, nz3]
      refine lvb 112 (x238 < l.length) rfl rfl (r_lss x238 l.length rfl rfl rfl) (fun hs252 => ?_) (fun hs252 => ?_)
      rotate_left
      · simp only [nz1, nz2, nz3]
        refine lvw 113 (.bool false) rfl rfl (run_mv rfl rfl) ?_
        simp only [nz1, nz2, nz3]
        refine lst_skip 114 rfl rfl ?_
        simp only [nz1, nz2, nz3]
        refine lst_skip 115 rfl rfl ?_
        simp only [nz1, nz2, nz3]
        refine lvw 116 (.bool false) rfl rfl (run_pickf rfl rfl rfl) ?_
        simp only [nz1, nz2, nz3]
        refine wpList_nil ?_
        refine then_n (hK251 _ _ ?_)
        refine cond_f rfl ?_
        refine wp_exit ?_
        refine then_x ?_
        refine then_x ?_
        refine blk_x ?_
        refine then_n ?_
        exact ⟨x237, x238, (fun qq => bif Nat.blt qq 24 then List.getD [.int .i64 ((x238 : Nat) : Int), lv0, .int .i64 ((l.length : Nat) : Int), .bool false, .bool false, undef, undef, .bool false, u2 8, u2 9, u2 10, u2 11, u2 12, u2 13, u2 14, u2 15, u2 16, u2 17, u2 18, u2 19, u2 20, u2 21, u2 22, u2 23] qq undef else List.getD [u2 24, u2 25, u2 26, u2 27, u2 28, u2 29, u2 30, u2 31, u2 32] (qq - 24) undef), (hi241.trans (show keeps_m_b2 d l fates y71 y72 y75 y78 y79 x217 (keeps_m_l2 d l fates y71 y72 y75 y78 y79 x217 k240) x237 x238 = .inl (x237, x238) from by unfold keeps_m_b2; rw [if_neg hs252] <;> rfl)), rfl, hm246⟩
      simp only [nz1, nz2, nz3]
      refine lvw 113 (.bool true) rfl rfl (run_mv rfl rfl) ?_
      simp only [nz1, nz2, nz3]
      refine lvw 114 (.int .i64 ((x238 : Nat) : Int)) rfl rfl (run_mv rfl rfl) ?_
      simp only [nz1, nz2, nz3]
      refine lvw 115 (.bool (decide (x238 < 60))) rfl rfl (r_lss x238 60 rfl rfl rfl) ?_
      simp only [nz1, nz2, nz3]
      refine lvw 116 (.bool (decide (x238 < 60))) rfl rfl (run_pick rfl rfl rfl) ?_
      simp only [nz1, nz2, nz3]
      refine wpList_nil ?_
      refine then_n (hK251 _ _ ?_)
      refine cond_d (x238 < 60) rfl (fun hc253 => ?_) (fun hc253 => ?_)
      rotate_left
      · refine wp_exit ?_
        refine then_x ?_
        refine then_x ?_
        refine blk_x ?_
        refine then_n ?_
        exact ⟨x237, x238, (fun qq => bif Nat.blt qq 24 then List.getD [.int .i64 ((x238 : Nat) : Int), lv0, .int .i64 ((l.length : Nat) : Int), .bool true, .bool true, .int .i64 ((x238 : Nat) : Int), .bool (decide (x238 < 60)), .bool (decide (x238 < 60)), u2 8, u2 9, u2 10, u2 11, u2 12, u2 13, u2 14, u2 15, u2 16, u2 17, u2 18, u2 19, u2 20, u2 21, u2 22, u2 23] qq undef else List.getD [u2 24, u2 25, u2 26, u2 27, u2 28, u2 29, u2 30, u2 31, u2 32] (qq - 24) undef), (hi241.trans (show keeps_m_b2 d l fates y71 y72 y75 y78 y79 x217 (keeps_m_l2 d l fates y71 y72 y75 y78 y79 x217 k240) x237 x238 = .inl (x237, x238) from by unfold keeps_m_b2; rw [if_pos hs252, if_neg hc253] <;> rfl)), rfl, hm246⟩
      refine wp_skip ?_
      refine then_n (hK250 _ _ ?_)
      refine wp_seq_k (fun K254 hK254 => ?_)
      refine wp_block ?_
      have hm255 := hm246.drew
      refine wp_region_held_drew (S := fun w' => Mem.Blk w' g193 (#[v180, v181, .int .i64 (((crash_m (Dk.mk y72 y75 y78 y79) fates (-1)).1).fuse), .bool (((crash_m (Dk.mk y72 y75 y78 y79) fates (-1)).1).down)]) 25 ∧ Rs eWr 2 l lv0 w' ∧ Rs eS 1 (((crash_m (Dk.mk y72 y75 y78 y79) fates (-1)).1).safe) v180 w') (by kernel_rfl) (⟨hm255.at 9 rfl, ((hm255.see 1 rfl)), ((hm255.see 8 rfl).1)⟩) (fun _ => ?_)
      generalize w245.drew = w256 at *
      refine tkb 0 119 (x237 = true) rfl rfl rfl (fun _ hw => (by rw [show decide (x237 = true) = x237 from Bool.decide_eq_true]; exact run_mv rfl rfl)) (⟨hm255.at 9 rfl, ((hm255.see 1 rfl)), ((hm255.see 8 rfl).1)⟩) (fun hs257 => ?_) (fun hs257 => ?_)
      · simp only [nz1, nz2, nz3]
        refine tk 1 120 (.bool true) rfl rfl (fun _ hw => run_mv rfl rfl) (⟨hm255.at 9 rfl, ((hm255.see 1 rfl)), ((hm255.see 8 rfl).1)⟩) ?_
        simp only [nz1, nz2, nz3]
        refine skx 2 121 rfl rfl rfl (⟨hm255.at 9 rfl, ((hm255.see 1 rfl)), ((hm255.see 8 rfl).1)⟩) ?_
        simp only [nz1, nz2, nz3]
        refine skx 3 122 rfl rfl rfl (⟨hm255.at 9 rfl, ((hm255.see 1 rfl)), ((hm255.see 8 rfl).1)⟩) ?_
        simp only [nz1, nz2, nz3]
        refine skx 4 123 rfl rfl rfl (⟨hm255.at 9 rfl, ((hm255.see 1 rfl)), ((hm255.see 8 rfl).1)⟩) ?_
        simp only [nz1, nz2, nz3]
        refine skx 5 124 rfl rfl rfl (⟨hm255.at 9 rfl, ((hm255.see 1 rfl)), ((hm255.see 8 rfl).1)⟩) ?_
        simp only [nz1, nz2, nz3]
        refine skx 6 125 rfl rfl rfl (⟨hm255.at 9 rfl, ((hm255.see 1 rfl)), ((hm255.see 8 rfl).1)⟩) ?_
        simp only [nz1, nz2, nz3]
        refine skx 7 126 rfl rfl rfl (⟨hm255.at 9 rfl, ((hm255.see 1 rfl)), ((hm255.see 8 rfl).1)⟩) ?_
        simp only [nz1, nz2, nz3]
        refine skx 8 127 rfl rfl rfl (⟨hm255.at 9 rfl, ((hm255.see 1 rfl)), ((hm255.see 8 rfl).1)⟩) ?_
        simp only [nz1, nz2, nz3]
        refine skx 9 128 rfl rfl rfl (⟨hm255.at 9 rfl, ((hm255.see 1 rfl)), ((hm255.see 8 rfl).1)⟩) ?_
        simp only [nz1, nz2, nz3]
        refine skx 10 129 rfl rfl rfl (⟨hm255.at 9 rfl, ((hm255.see 1 rfl)), ((hm255.see 8 rfl).1)⟩) ?_
        simp only [nz1, nz2, nz3]
        refine skx 11 130 rfl rfl rfl (⟨hm255.at 9 rfl, ((hm255.see 1 rfl)), ((hm255.see 8 rfl).1)⟩) ?_
        simp only [nz1, nz2, nz3]
        refine skx 12 131 rfl rfl rfl (⟨hm255.at 9 rfl, ((hm255.see 1 rfl)), ((hm255.see 8 rfl).1)⟩) ?_
        simp only [nz1, nz2, nz3]
        refine skx 13 132 rfl rfl rfl (⟨hm255.at 9 rfl, ((hm255.see 1 rfl)), ((hm255.see 8 rfl).1)⟩) ?_
        simp only [nz1, nz2, nz3]
        refine skx 14 133 rfl rfl rfl (⟨hm255.at 9 rfl, ((hm255.see 1 rfl)), ((hm255.see 8 rfl).1)⟩) ?_
        simp only [nz1, nz2, nz3]
        refine skx 15 134 rfl rfl rfl (⟨hm255.at 9 rfl, ((hm255.see 1 rfl)), ((hm255.see 8 rfl).1)⟩) ?_
        simp only [nz1, nz2, nz3]
        refine skx 16 135 rfl rfl rfl (⟨hm255.at 9 rfl, ((hm255.see 1 rfl)), ((hm255.see 8 rfl).1)⟩) ?_
        simp only [nz1, nz2, nz3]
        refine skx 17 136 rfl rfl rfl (⟨hm255.at 9 rfl, ((hm255.see 1 rfl)), ((hm255.see 8 rfl).1)⟩) ?_
        simp only [nz1, nz2, nz3]
        refine skx 18 137 rfl rfl rfl (⟨hm255.at 9 rfl, ((hm255.see 1 rfl)), ((hm255.see 8 rfl).1)⟩) ?_
        simp only [nz1, nz2, nz3]
        refine skx 19 138 rfl rfl rfl (⟨hm255.at 9 rfl, ((hm255.see 1 rfl)), ((hm255.see 8 rfl).1)⟩) ?_
        simp only [nz1, nz2, nz3]
        refine skx 20 139 rfl rfl rfl (⟨hm255.at 9 rfl, ((hm255.see 1 rfl)), ((hm255.see 8 rfl).1)⟩) ?_
        simp only [nz1, nz2, nz3]
        refine skx 21 140 rfl rfl rfl (⟨hm255.at 9 rfl, ((hm255.see 1 rfl)), ((hm255.see 8 rfl).1)⟩) ?_
        simp only [nz1, nz2, nz3]
        refine tk 22 141 (.bool true) rfl rfl (fun _ hw => run_pick rfl rfl rfl) (⟨hm255.at 9 rfl, ((hm255.see 1 rfl)), ((hm255.see 8 rfl).1)⟩) ?_
        simp only [nz1, nz2, nz3]
        refine one_ready 23 (by kernel_rfl) ?_
        refine opd rfl (wanted_none rfl) (w_value 15 (.bool true) rfl (run_as rfl rfl) ⟨⟨hm255.at 9 rfl, ((hm255.see 1 rfl)), ((hm255.see 8 rfl).1)⟩, ?_⟩)
        simp only [nz1, nz2, nz3]
        refine wpAnyH_done (by kernel_rfl) ?_ _
        refine blk_n ?_
        refine then_n (hK254 _ _ ?_)
        refine wp_region_lit ?_
        refine lvw 117 (.int .i64 ((x238 : Nat) : Int)) rfl rfl (run_mv rfl rfl) ?_
        simp only [nz1, nz2, nz3]
        refine lvw 118 (.int .i64 (((x238 + 1) : Nat) : Int)) rfl rfl (r_add x238 1 (show (x238 + 1) < 9223372036854775808 from by omega) rfl rfl rfl) ?_
        simp only [nz1, nz2, nz3]
        refine lvw 16 (.int .i64 (((x238 + 1) : Nat) : Int)) rfl rfl (run_as rfl rfl) ?_
        simp only [nz1, nz2, nz3]
        refine wpList_nil ?_
        refine then_n (hR247 _ _ _ ⟨k240, true, (x238 + 1), (fun qq => bif Nat.blt qq 24 then List.getD [.int .i64 ((x238 : Nat) : Int), lv0, .int .i64 ((l.length : Nat) : Int), .bool true, .bool true, .int .i64 ((x238 : Nat) : Int), .bool (decide (x238 < 60)), .bool (decide (x238 < 60)), .int .i64 ((x238 : Nat) : Int), .int .i64 (((x238 + 1) : Nat) : Int), .bool true, .bool true, undef, undef, undef, undef, undef, undef, undef, undef, undef, undef, undef, undef] qq undef else List.getD [undef, undef, undef, undef, undef, undef, undef, undef, .bool true] (qq - 24) undef), rfl, (by first | omega | (simp; omega) | (simp at *; omega)), (hi241.trans (show keeps_m_b2 d l fates y71 y72 y75 y78 y79 x217 (keeps_m_l2 d l fates y71 y72 y75 y78 y79 x217 k240) x237 x238 = keeps_m_l2 d l fates y71 y72 y75 y78 y79 x217 k240 (true, (x238 + 1)) from by unfold keeps_m_b2; rw [if_pos hs252, if_pos hc253, if_pos hs257] <;> rfl)), rfl, hm255⟩ ?_)
        omega
      simp only [nz1, nz2, nz3]
      refine tk 1 120 (.bool false) rfl rfl (fun _ hw => run_mv rfl rfl) (⟨hm255.at 9 rfl, ((hm255.see 1 rfl)), ((hm255.see 8 rfl).1)⟩) ?_
      simp only [nz1, nz2, nz3]
      refine Sym.take_at 2 121 (lv0) rfl rfl (by kernel_rfl) (by kernel_rfl) (by kernel_rfl) (fun _ _ _ h => h) rfl (fun _ hw => run_mv rfl rfl) (⟨hm255.at 9 rfl, ((hm255.see 1 rfl)), ((hm255.see 8 rfl).1)⟩) ?_
      simp only [nz1, nz2, nz3]
      refine Sym.take_at 3 122 (.int .i64 ((x238 : Nat) : Int)) rfl rfl (by kernel_rfl) (by kernel_rfl) (by kernel_rfl) (fun _ _ _ h => h) rfl (fun _ hw => run_mv rfl rfl) (⟨hm255.at 9 rfl, ((hm255.see 1 rfl)), ((hm255.see 8 rfl).1)⟩) ?_
      simp only [nz1, nz2, nz3]
      refine Sym.take_at 4 123 (.pointer (some ⟨(bk lv0), (po lv0 + x238 * 2), none⟩)) rfl rfl (by kernel_rfl) (by kernel_rfl) (by kernel_rfl) (fun _ _ _ h => h) rfl (fun _ hw => r_ixv ((hm255.see 1 rfl)) x238 (by omega) Try.underlying23 sz_42 rfl rfl rfl) (⟨hm255.at 9 rfl, ((hm255.see 1 rfl)), ((hm255.see 8 rfl).1)⟩) ?_
      simp only [nz1, nz2, nz3]
      refine Sym.take_at 5 124 (.pointer (some ⟨(bk lv0), ((po lv0 + x238 * 2) + 0), none⟩)) rfl rfl (by kernel_rfl) (by kernel_rfl) (by kernel_rfl) (fun _ _ _ h => h) rfl (fun _ hw => r_fa42_0 (bk lv0) (po lv0 + x238 * 2) rfl rfl) (⟨hm255.at 9 rfl, ((hm255.see 1 rfl)), ((hm255.see 8 rfl).1)⟩) ?_
      simp only [nz1, nz2, nz3]
      refine Sym.take_at 6 125 (.int .i64 ((l.getD x238 dWr).at_)) rfl rfl (by kernel_rfl) (by kernel_rfl) (by kernel_rfl) (fun _ _ _ h => h) rfl (fun _ hw => r_cellw (Rs.cell hw.2.1 eWr_len dWr x238 (by omega) 0 _ rfl) Try.underlying3 rfl rfl rfl) (⟨hm255.at 9 rfl, ((hm255.see 1 rfl)), ((hm255.see 8 rfl).1)⟩) ?_
      simp only [nz1, nz2, nz3]
      refine Sym.take_at 7 126 (.int .i64 ((x217 : Nat) : Int)) rfl rfl (by kernel_rfl) (by kernel_rfl) (by kernel_rfl) (fun _ _ _ h => h) rfl (fun _ hw => run_mv rfl rfl) (⟨hm255.at 9 rfl, ((hm255.see 1 rfl)), ((hm255.see 8 rfl).1)⟩) ?_
      simp only [nz1, nz2, nz3]
      refine tkb 8 127 ((l.getD x238 dWr).at_ = ((x217 : Nat) : Int)) rfl rfl rfl (fun _ hw => z_eql ((l.getD x238 dWr).at_) ((x217 : Nat) : Int) rfl rfl rfl) (⟨hm255.at 9 rfl, ((hm255.see 1 rfl)), ((hm255.see 8 rfl).1)⟩) (fun hs258 => ?_) (fun hs258 => ?_)
      · simp only [nz1, nz2, nz3]
        refine Sym.take_at 9 128 (.bool true) rfl rfl (by kernel_rfl) (by kernel_rfl) (by kernel_rfl) (fun _ _ _ h => h) rfl (fun _ hw => run_mv rfl rfl) (⟨hm255.at 9 rfl, ((hm255.see 1 rfl)), ((hm255.see 8 rfl).1)⟩) ?_
        simp only [nz1, nz2, nz3]
        refine Sym.take_at 10 129 (lv0) rfl rfl (by kernel_rfl) (by kernel_rfl) (by kernel_rfl) (fun _ _ _ h => h) rfl (fun _ hw => run_mv rfl rfl) (⟨hm255.at 9 rfl, ((hm255.see 1 rfl)), ((hm255.see 8 rfl).1)⟩) ?_
        simp only [nz1, nz2, nz3]
        refine Sym.take_at 11 130 (.int .i64 ((x238 : Nat) : Int)) rfl rfl (by kernel_rfl) (by kernel_rfl) (by kernel_rfl) (fun _ _ _ h => h) rfl (fun _ hw => run_mv rfl rfl) (⟨hm255.at 9 rfl, ((hm255.see 1 rfl)), ((hm255.see 8 rfl).1)⟩) ?_
        simp only [nz1, nz2, nz3]
        refine Sym.take_at 12 131 (.pointer (some ⟨(bk lv0), (po lv0 + x238 * 2), none⟩)) rfl rfl (by kernel_rfl) (by kernel_rfl) (by kernel_rfl) (fun _ _ _ h => h) rfl (fun _ hw => r_ixv ((hm255.see 1 rfl)) x238 (by omega) Try.underlying23 sz_42 rfl rfl rfl) (⟨hm255.at 9 rfl, ((hm255.see 1 rfl)), ((hm255.see 8 rfl).1)⟩) ?_
        simp only [nz1, nz2, nz3]
        refine Sym.take_at 13 132 (.pointer (some ⟨(bk lv0), ((po lv0 + x238 * 2) + 1), none⟩)) rfl rfl (by kernel_rfl) (by kernel_rfl) (by kernel_rfl) (fun _ _ _ h => h) rfl (fun _ hw => r_fa42_1 (bk lv0) (po lv0 + x238 * 2) rfl rfl) (⟨hm255.at 9 rfl, ((hm255.see 1 rfl)), ((hm255.see 8 rfl).1)⟩) ?_
        simp only [nz1, nz2, nz3]
        refine Sym.take_at 14 133 (.string (tx ((l.getD x238 dWr).data))) rfl rfl (by kernel_rfl) (by kernel_rfl) (by kernel_rfl) (fun _ _ _ h => h) rfl (fun _ hw => r_cellw (Rs.cell hw.2.1 eWr_len dWr x238 (by omega) 1 _ rfl) Try.underlying9 rfl rfl rfl) (⟨hm255.at 9 rfl, ((hm255.see 1 rfl)), ((hm255.see 8 rfl).1)⟩) ?_
        simp only [nz1, nz2, nz3]
        refine Sym.take_at 15 134 (.pointer (some ⟨g193, 0, none⟩)) rfl rfl (by kernel_rfl) (by kernel_rfl) (by kernel_rfl) (fun _ _ _ h => h) rfl (fun _ hw => r_fa25_0 g193 0 rfl rfl) (⟨hm255.at 9 rfl, ((hm255.see 1 rfl)), ((hm255.see 8 rfl).1)⟩) ?_
        simp only [nz1, nz2, nz3]
        refine Sym.take_at 16 135 (v180) rfl rfl (by kernel_rfl) (by kernel_rfl) (by kernel_rfl) (fun _ _ _ h => h) rfl (fun _ hw => r_load hw.1 rfl Try.underlying22 rfl rfl rfl) (⟨hm255.at 9 rfl, ((hm255.see 1 rfl)), ((hm255.see 8 rfl).1)⟩) ?_
        simp only [nz1, nz2, nz3]
        refine Sym.take_at 17 136 (.int .i64 ((x217 : Nat) : Int)) rfl rfl (by kernel_rfl) (by kernel_rfl) (by kernel_rfl) (fun _ _ _ h => h) rfl (fun _ hw => run_mv rfl rfl) (⟨hm255.at 9 rfl, ((hm255.see 1 rfl)), ((hm255.see 8 rfl).1)⟩) ?_
        simp only [nz1, nz2, nz3]
        refine Sym.take_at 18 137 (.pointer (some ⟨(bk v180), (po v180 + x217 * 1), none⟩)) rfl rfl (by kernel_rfl) (by kernel_rfl) (by kernel_rfl) (fun _ _ _ h => h) rfl (fun _ hw => r_ixv ((hm255.see 8 rfl).1) x217 (by omega) Try.underlying22 sz_9 rfl rfl rfl) (⟨hm255.at 9 rfl, ((hm255.see 1 rfl)), ((hm255.see 8 rfl).1)⟩) ?_
        simp only [nz1, nz2, nz3]
        refine Sym.take_at 19 138 (.string (tx ((((crash_m (Dk.mk y72 y75 y78 y79) fates (-1)).1).safe).getD x217 []))) rfl rfl (by kernel_rfl) (by kernel_rfl) (by kernel_rfl) (fun _ _ _ h => h) rfl (fun _ hw => r_cellw (Rs.cell hw.2.2 eS_len [] x217 (by omega) 0 _ rfl) Try.underlying9 rfl rfl rfl) (⟨hm255.at 9 rfl, ((hm255.see 1 rfl)), ((hm255.see 8 rfl).1)⟩) ?_
        simp only [nz1, nz2, nz3]
        refine Sym.take_at 20 139 (.bool (decide ((l.getD x238 dWr).data = ((((crash_m (Dk.mk y72 y75 y78 y79) fates (-1)).1).safe).getD x217 [])))) rfl rfl (by kernel_rfl) (by kernel_rfl) (by kernel_rfl) (fun _ _ _ h => h) rfl (fun _ hw => t_eql ((l.getD x238 dWr).data) ((((crash_m (Dk.mk y72 y75 y78 y79) fates (-1)).1).safe).getD x217 []) rfl rfl rfl) (⟨hm255.at 9 rfl, ((hm255.see 1 rfl)), ((hm255.see 8 rfl).1)⟩) ?_
        simp only [nz1, nz2, nz3]
        refine Sym.take_at 21 140 (.bool (decide ((l.getD x238 dWr).data = ((((crash_m (Dk.mk y72 y75 y78 y79) fates (-1)).1).safe).getD x217 [])))) rfl rfl (by kernel_rfl) (by kernel_rfl) (by kernel_rfl) (fun _ _ _ h => h) rfl (fun _ hw => run_pick rfl rfl rfl) (⟨hm255.at 9 rfl, ((hm255.see 1 rfl)), ((hm255.see 8 rfl).1)⟩) ?_
        simp only [nz1, nz2, nz3]
        refine tk 22 141 (.bool (decide ((l.getD x238 dWr).data = ((((crash_m (Dk.mk y72 y75 y78 y79) fates (-1)).1).safe).getD x217 [])))) rfl rfl (fun _ hw => run_pickf rfl rfl rfl) (⟨hm255.at 9 rfl, ((hm255.see 1 rfl)), ((hm255.see 8 rfl).1)⟩) ?_
        simp only [nz1, nz2, nz3]
        refine one_ready 23 (by kernel_rfl) ?_
        refine opd rfl (wanted_none rfl) (w_value 15 (.bool (decide ((l.getD x238 dWr).data = ((((crash_m (Dk.mk y72 y75 y78 y79) fates (-1)).1).safe).getD x217 [])))) rfl (run_as rfl rfl) ⟨⟨hm255.at 9 rfl, ((hm255.see 1 rfl)), ((hm255.see 8 rfl).1)⟩, ?_⟩)
        simp only [nz1, nz2, nz3]
        refine wpAnyH_done (by kernel_rfl) ?_ _
        refine blk_n ?_
        refine then_n (hK254 _ _ ?_)
        refine wp_region_lit ?_
        refine lvw 117 (.int .i64 ((x238 : Nat) : Int)) rfl rfl (run_mv rfl rfl) ?_
        simp only [nz1, nz2, nz3]
        refine lvw 118 (.int .i64 (((x238 + 1) : Nat) : Int)) rfl rfl (r_add x238 1 (show (x238 + 1) < 9223372036854775808 from by omega) rfl rfl rfl) ?_
        simp only [nz1, nz2, nz3]
        refine lvw 16 (.int .i64 (((x238 + 1) : Nat) : Int)) rfl rfl (run_as rfl rfl) ?_
        simp only [nz1, nz2, nz3]
        refine wpList_nil ?_
        refine then_n (hR247 _ _ _ ⟨k240, (decide ((l.getD x238 dWr).data = ((((crash_m (Dk.mk y72 y75 y78 y79) fates (-1)).1).safe).getD x217 []))), (x238 + 1), (fun qq => bif Nat.blt qq 24 then List.getD [.int .i64 ((x238 : Nat) : Int), lv0, .int .i64 ((l.length : Nat) : Int), .bool true, .bool true, .int .i64 ((x238 : Nat) : Int), .bool (decide (x238 < 60)), .bool (decide (x238 < 60)), .int .i64 ((x238 : Nat) : Int), .int .i64 (((x238 + 1) : Nat) : Int), .bool false, .bool false, lv0, .int .i64 ((x238 : Nat) : Int), .pointer (some ⟨(bk lv0), (po lv0 + x238 * 2), none⟩), .pointer (some ⟨(bk lv0), ((po lv0 + x238 * 2) + 0), none⟩), .int .i64 ((l.getD x238 dWr).at_), .int .i64 ((x217 : Nat) : Int), .bool true, .bool true, lv0, .int .i64 ((x238 : Nat) : Int), .pointer (some ⟨(bk lv0), (po lv0 + x238 * 2), none⟩), .pointer (some ⟨(bk lv0), ((po lv0 + x238 * 2) + 1), none⟩)] qq undef else List.getD [.string (tx ((l.getD x238 dWr).data)), .pointer (some ⟨g193, 0, none⟩), v180, .int .i64 ((x217 : Nat) : Int), .pointer (some ⟨(bk v180), (po v180 + x217 * 1), none⟩), .string (tx ((((crash_m (Dk.mk y72 y75 y78 y79) fates (-1)).1).safe).getD x217 [])), .bool (decide ((l.getD x238 dWr).data = ((((crash_m (Dk.mk y72 y75 y78 y79) fates (-1)).1).safe).getD x217 []))), .bool (decide ((l.getD x238 dWr).data = ((((crash_m (Dk.mk y72 y75 y78 y79) fates (-1)).1).safe).getD x217 []))), .bool (decide ((l.getD x238 dWr).data = ((((crash_m (Dk.mk y72 y75 y78 y79) fates (-1)).1).safe).getD x217 [])))] (qq - 24) undef), rfl, (by first | omega | (simp; omega) | (simp at *; omega)), (hi241.trans (show keeps_m_b2 d l fates y71 y72 y75 y78 y79 x217 (keeps_m_l2 d l fates y71 y72 y75 y78 y79 x217 k240) x237 x238 = keeps_m_l2 d l fates y71 y72 y75 y78 y79 x217 k240 ((decide ((l.getD x238 dWr).data = ((((crash_m (Dk.mk y72 y75 y78 y79) fates (-1)).1).safe).getD x217 []))), (x238 + 1)) from by unfold keeps_m_b2; rw [if_pos hs252, if_pos hc253, if_neg hs257, if_pos hs258] <;> rfl)), rfl, hm255⟩ ?_)
        omega
      simp only [nz1, nz2, nz3]
      refine Sym.take_at 9 128 (.bool false) rfl rfl (by kernel_rfl) (by kernel_rfl) (by kernel_rfl) (fun _ _ _ h => h) rfl (fun _ hw => run_mv rfl rfl) (⟨hm255.at 9 rfl, ((hm255.see 1 rfl)), ((hm255.see 8 rfl).1)⟩) ?_
      simp only [nz1, nz2, nz3]
      refine skx 10 129 rfl rfl rfl (⟨hm255.at 9 rfl, ((hm255.see 1 rfl)), ((hm255.see 8 rfl).1)⟩) ?_
      simp only [nz1, nz2, nz3]
      refine skx 11 130 rfl rfl rfl (⟨hm255.at 9 rfl, ((hm255.see 1 rfl)), ((hm255.see 8 rfl).1)⟩) ?_
      simp only [nz1, nz2, nz3]
      refine skx 12 131 rfl rfl rfl (⟨hm255.at 9 rfl, ((hm255.see 1 rfl)), ((hm255.see 8 rfl).1)⟩) ?_
      simp only [nz1, nz2, nz3]
      refine skx 13 132 rfl rfl rfl (⟨hm255.at 9 rfl, ((hm255.see 1 rfl)), ((hm255.see 8 rfl).1)⟩) ?_
      simp only [nz1, nz2, nz3]
      refine skx 14 133 rfl rfl rfl (⟨hm255.at 9 rfl, ((hm255.see 1 rfl)), ((hm255.see 8 rfl).1)⟩) ?_
      simp only [nz1, nz2, nz3]
      refine skx 15 134 rfl rfl rfl (⟨hm255.at 9 rfl, ((hm255.see 1 rfl)), ((hm255.see 8 rfl).1)⟩) ?_
      simp only [nz1, nz2, nz3]
      refine skx 16 135 rfl rfl rfl (⟨hm255.at 9 rfl, ((hm255.see 1 rfl)), ((hm255.see 8 rfl).1)⟩) ?_
      simp only [nz1, nz2, nz3]
      refine skx 17 136 rfl rfl rfl (⟨hm255.at 9 rfl, ((hm255.see 1 rfl)), ((hm255.see 8 rfl).1)⟩) ?_
      simp only [nz1, nz2, nz3]
      refine skx 18 137 rfl rfl rfl (⟨hm255.at 9 rfl, ((hm255.see 1 rfl)), ((hm255.see 8 rfl).1)⟩) ?_
      simp only [nz1, nz2, nz3]
      refine skx 19 138 rfl rfl rfl (⟨hm255.at 9 rfl, ((hm255.see 1 rfl)), ((hm255.see 8 rfl).1)⟩) ?_
      simp only [nz1, nz2, nz3]
      refine skx 20 139 rfl rfl rfl (⟨hm255.at 9 rfl, ((hm255.see 1 rfl)), ((hm255.see 8 rfl).1)⟩) ?_
      simp only [nz1, nz2, nz3]
      refine Sym.take_at 21 140 (.bool false) rfl rfl (by kernel_rfl) (by kernel_rfl) (by kernel_rfl) (fun _ _ _ h => h) rfl (fun _ hw => run_pickf rfl rfl rfl) (⟨hm255.at 9 rfl, ((hm255.see 1 rfl)), ((hm255.see 8 rfl).1)⟩) ?_
      simp only [nz1, nz2, nz3]
      refine tk 22 141 (.bool false) rfl rfl (fun _ hw => run_pickf rfl rfl rfl) (⟨hm255.at 9 rfl, ((hm255.see 1 rfl)), ((hm255.see 8 rfl).1)⟩) ?_
      simp only [nz1, nz2, nz3]
      refine one_ready 23 (by kernel_rfl) ?_
      refine opd rfl (wanted_none rfl) (w_value 15 (.bool false) rfl (run_as rfl rfl) ⟨⟨hm255.at 9 rfl, ((hm255.see 1 rfl)), ((hm255.see 8 rfl).1)⟩, ?_⟩)
      simp only [nz1, nz2, nz3]
      refine wpAnyH_done (by kernel_rfl) ?_ _
      refine blk_n ?_
      refine then_n (hK254 _ _ ?_)
      refine wp_region_lit ?_
      refine lvw 117 (.int .i64 ((x238 : Nat) : Int)) rfl rfl (run_mv rfl rfl) ?_
      simp only [nz1, nz2, nz3]
      refine lvw 118 (.int .i64 (((x238 + 1) : Nat) : Int)) rfl rfl (r_add x238 1 (show (x238 + 1) < 9223372036854775808 from by omega) rfl rfl rfl) ?_
      simp only [nz1, nz2, nz3]
      refine lvw 16 (.int .i64 (((x238 + 1) : Nat) : Int)) rfl rfl (run_as rfl rfl) ?_
      simp only [nz1, nz2, nz3]
      refine wpList_nil ?_
      refine then_n (hR247 _ _ _ ⟨k240, false, (x238 + 1), (fun qq => bif Nat.blt qq 24 then List.getD [.int .i64 ((x238 : Nat) : Int), lv0, .int .i64 ((l.length : Nat) : Int), .bool true, .bool true, .int .i64 ((x238 : Nat) : Int), .bool (decide (x238 < 60)), .bool (decide (x238 < 60)), .int .i64 ((x238 : Nat) : Int), .int .i64 (((x238 + 1) : Nat) : Int), .bool false, .bool false, lv0, .int .i64 ((x238 : Nat) : Int), .pointer (some ⟨(bk lv0), (po lv0 + x238 * 2), none⟩), .pointer (some ⟨(bk lv0), ((po lv0 + x238 * 2) + 0), none⟩), .int .i64 ((l.getD x238 dWr).at_), .int .i64 ((x217 : Nat) : Int), .bool false, .bool false, undef, undef, undef, undef] qq undef else List.getD [undef, undef, undef, undef, undef, undef, undef, .bool false, .bool false] (qq - 24) undef), rfl, (by first | omega | (simp; omega) | (simp at *; omega)), (hi241.trans (show keeps_m_b2 d l fates y71 y72 y75 y78 y79 x217 (keeps_m_l2 d l fates y71 y72 y75 y78 y79 x217 k240) x237 x238 = keeps_m_l2 d l fates y71 y72 y75 y78 y79 x217 k240 (false, (x238 + 1)) from by unfold keeps_m_b2; rw [if_pos hs252, if_pos hc253, if_neg hs257, if_neg hs258] <;> rfl)), rfl, hm255⟩ ?_)
      omega
    rintro _ w259 ⟨y242, y243, yu2, hx244, rfl, hm260⟩
    have hq261 : keeps_m_l1 d l fates y71 y72 y75 y78 y79 (((((crash_m (Dk.mk y72 y75 y78 y79) fates (-1)).1).safe).length - 0) + 1) 0 = keeps_m_k2 d l fates y71 y72 y75 y78 y79 x217 (keeps_m_l1 d l fates y71 y72 y75 y78 y79 k219) y242 y243 := (hi220.trans (show keeps_m_b1 d l fates y71 y72 y75 y78 y79 (keeps_m_l1 d l fates y71 y72 y75 y78 y79 k219) x217 = keeps_m_k2 d l fates y71 y72 y75 y78 y79 x217 (keeps_m_l1 d l fates y71 y72 y75 y78 y79 k219) y242 y243 from by unfold keeps_m_b1; rw [if_pos hc230, hx244] <;> rfl))
    refine then_n (hK235 _ _ ?_)
    refine wp_seq_k (fun K262 hK262 => ?_)
    refine wp_region_lit ?_
    refine lvw 142 (.bool (y242)) rfl rfl (run_mv rfl rfl) ?_
    simp only [nz1, nz2, nz3]
    refine lvw 143 (.bool (!y242)) rfl rfl (r_not y242 rfl rfl) ?_
    simp only [nz1, nz2, nz3]
    refine wpList_nil ?_
    refine then_n (hK262 _ _ ?_)
    refine cond_B (!y242) rfl (fun hc263 => ?_) (fun hc263 => ?_)
    rotate_left
    · refine wp_skip ?_
      refine blk_n ?_
      refine then_n (hK231 _ _ ?_)
      refine wp_region_lit ?_
      refine lvw 96 (.int .i64 ((x217 : Nat) : Int)) rfl rfl (run_mv rfl rfl) ?_
      simp only [nz1, nz2, nz3]
      refine lvw 97 (.int .i64 (((x217 + 1) : Nat) : Int)) rfl rfl (r_add x217 1 (show (x217 + 1) < 9223372036854775808 from by omega) rfl rfl rfl) ?_
      simp only [nz1, nz2, nz3]
      refine lvw 14 (.int .i64 (((x217 + 1) : Nat) : Int)) rfl rfl (run_as rfl rfl) ?_
      simp only [nz1, nz2, nz3]
      refine wpList_nil ?_
      refine then_n (hR225 _ _ _ ⟨k219, (x217 + 1), (fun qq => bif Nat.blt qq 24 then List.getD [u1 0, .bool (y242), .int .i64 ((y243 : Nat) : Int), .int .i64 ((x217 : Nat) : Int), .pointer (some ⟨g193, 0, none⟩), v180, .int .i64 (((((crash_m (Dk.mk y72 y75 y78 y79) fates (-1)).1).safe).length : Nat) : Int), .bool (decide (x217 < (((crash_m (Dk.mk y72 y75 y78 y79) fates (-1)).1).safe).length)), .int .i64 ((x217 : Nat) : Int), .int .i64 (((x217 + 1) : Nat) : Int), .pointer (some ⟨g193, 0, none⟩), v180, .int .i64 ((x217 : Nat) : Int), .pointer (some ⟨(bk v180), (po v180 + x217 * 1), none⟩), .string (tx ((((crash_m (Dk.mk y72 y75 y78 y79) fates (-1)).1).safe).getD x217 [])), .pointer (some ⟨g4, 0, none⟩), v25, .int .i64 ((x217 : Nat) : Int), .pointer (some ⟨(bk v25), (po v25 + x217 * 1), none⟩), .string (tx ((((flush_m (Dk.mk d.safe d.loose (-1) d.down)).1).safe).getD x217 [])), .bool (decide (((((crash_m (Dk.mk y72 y75 y78 y79) fates (-1)).1).safe).getD x217 []) = ((((flush_m (Dk.mk d.safe d.loose (-1) d.down)).1).safe).getD x217 []))), yu2 0, yu2 1, yu2 2] qq undef else bif Nat.blt qq 48 then List.getD [yu2 3, yu2 4, yu2 5, yu2 6, yu2 7, yu2 8, yu2 9, yu2 10, yu2 11, yu2 12, yu2 13, yu2 14, yu2 15, yu2 16, yu2 17, yu2 18, yu2 19, yu2 20, yu2 21, yu2 22, yu2 23, yu2 24, yu2 25, yu2 26] (qq - 24) undef else List.getD [yu2 27, yu2 28, yu2 29, yu2 30, yu2 31, yu2 32, .bool (y242), .bool (!y242)] (qq - 48) undef), rfl, (by first | omega | (simp; omega) | (simp at *; omega)), (hq261.trans (show keeps_m_k2 d l fates y71 y72 y75 y78 y79 x217 (keeps_m_l1 d l fates y71 y72 y75 y78 y79 k219) y242 y243 = keeps_m_l1 d l fates y71 y72 y75 y78 y79 k219 (x217 + 1) from by unfold keeps_m_k2; rw [if_neg hc263] <;> rfl)), rfl, hm260⟩ ?_)
      omega
    refine wp_seq_k (fun K264 hK264 => ?_)
    refine wp_region_lit ?_
    refine lvw 6 (.bool false) rfl rfl (run_as rfl rfl) ?_
    simp only [nz1, nz2, nz3]
    refine wpList_nil ?_
    refine then_n (hK264 _ _ ?_)
    refine wp_ret ?_
    refine blk_r ?_
    refine then_r ?_
    refine then_r ?_
    refine blk_r ?_
    refine then_r ?_
    refine then_r ?_
    have he265 : keeps_m_l1 d l fates y71 y72 y75 y78 y79 (((((crash_m (Dk.mk y72 y75 y78 y79) fates (-1)).1).safe).length - 0) + 1) 0 = .inr false := (hq261.trans (show keeps_m_k2 d l fates y71 y72 y75 y78 y79 x217 (keeps_m_l1 d l fates y71 y72 y75 y78 y79 k219) y242 y243 = .inr false from by unfold keeps_m_k2; rw [if_pos hc263] <;> rfl))
    have he266 : keeps_m d l fates = false := (hq176.trans (show keeps_m_k0 d l fates y71 y72 y75 y78 y79 = false from by unfold keeps_m_k0; rw [if_neg hs200, if_neg hs203, if_neg hs206, if_neg hs209, if_neg hc212, he265] <;> rfl))
    exact ⟨rfl, .bool false, res_t rfl rfl, ⟨by rw [he266], hm260.below⟩⟩
  rintro _ w267 ⟨y221, yu1, hx222, rfl, hm268⟩
  have hq269 : keeps_m d l fates = keeps_m_k1 d l fates y71 y72 y75 y78 y79 y221 := (hq176.trans (show keeps_m_k0 d l fates y71 y72 y75 y78 y79 = keeps_m_k1 d l fates y71 y72 y75 y78 y79 y221 from by unfold keeps_m_k0; rw [if_neg hs200, if_neg hs203, if_neg hs206, if_neg hs209, if_neg hc212, hx222] <;> rfl))
  refine then_n (hK215 _ _ ?_)
  refine wp_seq_k (fun K270 hK270 => ?_)
  refine wp_region_lit ?_
  refine lst rfl (m_call hm268 144 (.bool (awake_m)) rfl (run_awake rfl) (awake_any   _  ) (fun w271 (hm272 : Mm none (fun _ => True) w w271 [.see (DkR d dv0 dv1) Fd, .see (Rs eWr 2 l lv0) Fl, .see (Rs eB 1 fates fatesv0) Ffates, .blk g4 #[v25, v26, .int .i64 (((flush_m (Dk.mk d.safe d.loose (-1) d.down)).1).fuse), .bool (((flush_m (Dk.mk d.safe d.loose (-1) d.down)).1).down)] 25, .see (DkR ((flush_m (Dk.mk d.safe d.loose (-1) d.down)).1) v25 v26) F28, .blk g44 #[v73, v76, .int .i64 (y78), .bool (y79)] 25, .see (Rs eS 1 y72 v73) F74, .see (Rs eWr 2 y75 v76) F77, .see (DkR ((crash_m (Dk.mk y72 y75 y78 y79) fates (-1)).1) v180 v181) F183, .blk g193 #[v180, v181, .int .i64 (((crash_m (Dk.mk y72 y75 y78 y79) fates (-1)).1).fuse), .bool (((crash_m (Dk.mk y72 y75 y78 y79) fates (-1)).1).down)] 25]) => ?_))
  simp only [nz1, nz2, nz3]
  refine lvw 6 (.bool (awake_m)) rfl rfl (run_as rfl rfl) ?_
  simp only [nz1, nz2, nz3]
  refine wpList_nil ?_
  refine then_n (hK270 _ _ ?_)
  refine wp_ret ?_
  have he273 : keeps_m d l fates = awake_m := (hq269.trans (show keeps_m_k1 d l fates y71 y72 y75 y78 y79 y221 = awake_m from by unfold keeps_m_k1; rfl))
  exact ⟨rfl, .bool (awake_m), res_t rfl rfl, ⟨by rw [he273], hm272.below⟩⟩
theorem run_keeps {o : Oper} {a : Act} {w : World} {x0 x1 x2 : Operand} {v0 v1 v2 : Value} (ho : o.op = .call { callee := .value (.func 5), args := #[x0, x1, x2], argTypes := #[25, 23, 37] }) (h0 : a.eval x0 = v0) (h1 : a.eval x1 = v1) (h2 : a.eval x2 = v2) :
    (execOp a.eval o).run Try.prog w = .ok (.enter 5 #[v0, v1, v2]) w := by
  unfold execOp
  simp only [ho]
  have hf : a.eval (.func 5) = .func (.func 5) #[] #[] := rfl
  generalize a.eval = f at *
  go_simp
end Go.Proofs.Ytmammofbgllceaa.Bk
