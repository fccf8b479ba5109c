/- Layer 9: a header written. -/
import Derived.Test.YtglnifckngcpkaaDoorHdO
namespace Go.Proofs.YtglnifckngcpkaaDoor.Hd
open Go.RowKit
open Go.Proofs.YtglnifckngcpkaaDoor.Sym Go.Proofs.YtglnifckngcpkaaDoor.Mem
open Go.Proofs.YtglnifckngcpkaaDoor.Sx hiding Mm m_alloc m_store m_put m_call m_callx m_make m_append r_string r_ixS
set_option linter.unusedVariables false
attribute [local irreducible] octal_m put_m get_m hsum_m fits_m fill_m rep_m ib_m
attribute [local irreducible] wpList Oper.wp

def hencode_m_b0 (h : Hdr) (rec : (List UInt8) × Nat → Sum ((List UInt8) × Nat) ((List UInt8) × Int)) (x34 : List UInt8) (x35 : Nat) : Sum ((List UInt8) × Nat) ((List UInt8) × Int) :=
  if x35 < 5 then
    if x35 = 0 then
      if ¬ (put_m h.mode 8).2 = 0 then
        .inr (([]), (put_m h.mode 8).2)
      else
        rec ((x34 ++ (put_m h.mode 8).1), (x35 + 1))
    else
      if x35 = 1 then
        if ¬ (put_m h.uid 8).2 = 0 then
          .inr (([]), (put_m h.uid 8).2)
        else
          rec ((x34 ++ (put_m h.uid 8).1), (x35 + 1))
      else
        if x35 = 2 then
          if ¬ (put_m h.gid 8).2 = 0 then
            .inr (([]), (put_m h.gid 8).2)
          else
            rec ((x34 ++ (put_m h.gid 8).1), (x35 + 1))
        else
          if x35 = 3 then
            if ¬ (put_m h.size 12).2 = 0 then
              .inr (([]), (put_m h.size 12).2)
            else
              rec ((x34 ++ (put_m h.size 12).1), (x35 + 1))
          else
            if ¬ (put_m h.time 12).2 = 0 then
              .inr (([]), (put_m h.time 12).2)
            else
              rec ((x34 ++ (put_m h.time 12).1), (x35 + 1))
  else
    .inl (x34, x35)
def hencode_m_l0 (h : Hdr) : Nat → (List UInt8) × Nat → Sum ((List UInt8) × Nat) ((List UInt8) × Int)
  | 0, zz => .inl zz
  | nq + 1, zz => hencode_m_b0 h (hencode_m_l0 h nq) zz.1 zz.2

def hencode_m_k0 (h : Hdr) (y39 : List UInt8) (y40 : Nat) : (List UInt8) × Int :=
  ((((y39 ++ (octal_m (hsum_m ((y39 ++ (fill_m ([]) 8)) ++ (((((([h.flag] : List UInt8) ++ (fill_m h.link 100)) ++ [117, 115, 116, 97, 114, 0, 48, 48]) ++ (fill_m ([]) 80)) ++ (fill_m h.pfx 155)) ++ (fill_m ([]) 12)))) 6).1) ++ [0, 32]) ++ (((((([h.flag] : List UInt8) ++ (fill_m h.link 100)) ++ [117, 115, 116, 97, 114, 0, 48, 48]) ++ (fill_m ([]) 80)) ++ (fill_m h.pfx 155)) ++ (fill_m ([]) 12))), 0)

def hencode_m (h : Hdr) : (List UInt8) × Int :=
  if ¬ ((((h.name.length : Nat) : Int) ≤ 100 ∧ ib_m h.name 0 < 0)) then
    (([]), 3)
  else
    if ¬ ((((h.link.length : Nat) : Int) ≤ 100 ∧ ib_m h.link 0 < 0)) then
      (([]), 3)
    else
      if ¬ ((((h.pfx.length : Nat) : Int) ≤ 155 ∧ ib_m h.pfx 0 < 0)) then
        (([]), 3)
      else
        fin (hencode_m_l0 h ((5 - 0) + 1) ((fill_m h.name 100), 0)) (fun r => r) (fun zz => hencode_m_k0 h zz.1 zz.2)

set_option maxHeartbeats 4000000 in
set_option maxRecDepth 100000 in
theorem hencode_any (h : Hdr) (w : World)  (hT : Laid w) (hp0 : -9223372036854775808 ≤ h.mode) (hp1 : h.mode ≤ 9223372036854775807) (hp2 : -9223372036854775808 ≤ h.uid) (hp3 : h.uid ≤ 9223372036854775807) (hp4 : -9223372036854775808 ≤ h.gid) (hp5 : h.gid ≤ 9223372036854775807) (hp6 : -9223372036854775808 ≤ h.size) (hp7 : h.size ≤ 9223372036854775807) (hp8 : -9223372036854775808 ≤ h.time) (hp9 : h.time ≤ 9223372036854775807) : Calls Tryd.prog 14 #[.agg #[.string (tx h.name), .int .i64 (h.mode), .int .i64 (h.uid), .int .i64 (h.gid), .int .i64 (h.size), .int .i64 (h.time), .int .u8 ((h.flag.toNat : Nat) : Int), .string (tx h.link), .string (tx h.pfx)]] w (fun e w' => e = .returned (.tuple #[.string (tx ((hencode_m h).1)), .int .i64 ((hencode_m h).2)]) ∧ Below w.heap.size w w') := by
  go_enter Tryd.func14, Tryd.ntmps14
  have hm00 := Mm.nil none (fun _ => True) w
  have hm0 := hm00
  refine wp_seq_k (fun K1 hK1 => ?_)
  refine wp_region_lit ?_
  refine lst rfl (m_alloc (c := #[.string (tx h.name), .int .i64 (h.mode), .int .i64 (h.uid), .int .i64 (h.gid), .int .i64 (h.size), .int .i64 (h.time), .int .u8 ((h.flag.toNat : Nat) : Int), .string (tx h.link), .string (tx h.pfx)]) (T := 23) hm0 1 rfl (run_box rfl rfl) (fun g4 w2 (hm3 : Mm none (fun _ => True) w w2 [.blk g4 #[.string (tx h.name), .int .i64 (h.mode), .int .i64 (h.uid), .int .i64 (h.gid), .int .i64 (h.size), .int .i64 (h.time), .int .u8 ((h.flag.toNat : Nat) : Int), .string (tx h.link), .string (tx h.pfx)] 23]) => ?_))
  simp only [nz1, nz2, nz3]
  refine lvw 2 (.string (tx ([]))) rfl rfl (run_as rfl rfl) ?_
  simp only [nz1, nz2, nz3]
  refine lvw 3 (.int .i64 0) rfl rfl (run_as rfl rfl) ?_
  simp only [nz1, nz2, nz3]
  refine wpList_nil ?_
  refine then_n (hK1 _ _ ?_)
  refine wp_seq_k (fun K5 hK5 => ?_)
  refine wp_seq_k (fun K6 hK6 => ?_)
  refine wp_region_lit ?_
  refine lvw 12 (.pointer (some ⟨g4, 0, none⟩)) rfl rfl (r_fa23_0 g4 0 rfl rfl) ?_
  simp only [nz1, nz2, nz3]
  refine lvw 13 (.string (tx h.name)) rfl rfl (r_load (hm3.at 0 rfl) rfl Tryd.underlying9 rfl rfl rfl) ?_
  simp only [nz1, nz2, nz3]
  refine lst rfl (m_call hm3 14 (.bool (decide ((((h.name.length : Nat) : Int) ≤ 100 ∧ ib_m h.name 0 < 0)))) rfl (run_fits rfl rfl rfl) (fitsd_any h.name 100  _  ) (fun w7 (hm8 : Mm none (fun _ => True) w w7 [.blk g4 #[.string (tx h.name), .int .i64 (h.mode), .int .i64 (h.uid), .int .i64 (h.gid), .int .i64 (h.size), .int .i64 (h.time), .int .u8 ((h.flag.toNat : Nat) : Int), .string (tx h.link), .string (tx h.pfx)] 23]) => ?_))
  simp only [nz1, nz2, nz3]
  refine lvb 15 (¬ ((((h.name.length : Nat) : Int) ≤ 100 ∧ ib_m h.name 0 < 0))) rfl rfl (r_notD ((((h.name.length : Nat) : Int) ≤ 100 ∧ ib_m h.name 0 < 0)) rfl rfl) (fun hs9 => ?_) (fun hs9 => ?_)
  · simp only [nz1, nz2, nz3]
    refine lvw 16 (.bool true) rfl rfl (run_mv rfl rfl) ?_
    simp only [nz1, nz2, nz3]
    refine lst_skip 17 rfl rfl ?_
    simp only [nz1, nz2, nz3]
    refine lst_skip 18 rfl rfl ?_
    simp only [nz1, nz2, nz3]
    refine lst_skip 19 rfl rfl ?_
    simp only [nz1, nz2, nz3]
    refine lst_skip 20 rfl rfl ?_
    simp only [nz1, nz2, nz3]
    refine lvw 21 (.bool true) rfl rfl (run_pick rfl rfl rfl) ?_
    simp only [nz1, nz2, nz3]
    refine lvw 22 (.bool true) rfl rfl (run_mv rfl rfl) ?_
    simp only [nz1, nz2, nz3]
    refine lst_skip 23 rfl rfl ?_
    simp only [nz1, nz2, nz3]
    refine lst_skip 24 rfl rfl ?_
    simp only [nz1, nz2, nz3]
    refine lst_skip 25 rfl rfl ?_
    simp only [nz1, nz2, nz3]
    refine lst_skip 26 rfl rfl ?_
    simp only [nz1, nz2, nz3]
    refine lvw 27 (.bool true) rfl rfl (run_pick rfl rfl rfl) ?_
    simp only [nz1, nz2, nz3]
    refine wpList_nil ?_
    refine then_n (hK6 _ _ ?_)
    refine cond_t rfl ?_
    refine wp_seq_k (fun K10 hK10 => ?_)
    refine wp_region_lit ?_
    refine lvw 2 (.string (tx ([]))) rfl rfl (run_as rfl rfl) ?_
    simp only [nz1, nz2, nz3]
    refine lvw 3 (.int .i64 3) rfl rfl (run_as rfl rfl) ?_
    simp only [nz1, nz2, nz3]
    refine wpList_nil ?_
    refine then_n (hK10 _ _ ?_)
    refine wp_ret ?_
    refine then_r ?_
    have he11 : hencode_m h = (([]), 3) := (show hencode_m h = (([]), 3) from by unfold hencode_m; rw [if_pos hs9] <;> rfl)
    exact ⟨rfl, .tuple #[.string (tx ([])), .int .i64 3], res_tt rfl rfl rfl, ⟨by (rw [he11]; try rfl), hm8.below⟩⟩
  simp only [nz1, nz2, nz3]
  refine lvw 16 (.bool false) rfl rfl (run_mv rfl rfl) ?_
  simp only [nz1, nz2, nz3]
  refine lvw 17 (.pointer (some ⟨g4, 7, none⟩)) rfl rfl (r_fa23_7 g4 0 rfl rfl) ?_
  simp only [nz1, nz2, nz3]
  refine lvw 18 (.string (tx h.link)) rfl rfl (r_load (hm8.at 0 rfl) rfl Tryd.underlying9 rfl rfl rfl) ?_
  simp only [nz1, nz2, nz3]
  refine lst rfl (m_call hm8 19 (.bool (decide ((((h.link.length : Nat) : Int) ≤ 100 ∧ ib_m h.link 0 < 0)))) rfl (run_fits rfl rfl rfl) (fitsd_any h.link 100  _  ) (fun w12 (hm13 : Mm none (fun _ => True) w w12 [.blk g4 #[.string (tx h.name), .int .i64 (h.mode), .int .i64 (h.uid), .int .i64 (h.gid), .int .i64 (h.size), .int .i64 (h.time), .int .u8 ((h.flag.toNat : Nat) : Int), .string (tx h.link), .string (tx h.pfx)] 23]) => ?_))
  simp only [nz1, nz2, nz3]
  refine lvb 20 (¬ ((((h.link.length : Nat) : Int) ≤ 100 ∧ ib_m h.link 0 < 0))) rfl rfl (r_notD ((((h.link.length : Nat) : Int) ≤ 100 ∧ ib_m h.link 0 < 0)) rfl rfl) (fun hs14 => ?_) (fun hs14 => ?_)
  · simp only [nz1, nz2, nz3]
    refine lvw 21 (.bool true) rfl rfl (run_pickf rfl rfl rfl) ?_
    simp only [nz1, nz2, nz3]
    refine lvw 22 (.bool true) rfl rfl (run_mv rfl rfl) ?_
    simp only [nz1, nz2, nz3]
    refine lst_skip 23 rfl rfl ?_
    simp only [nz1, nz2, nz3]
    refine lst_skip 24 rfl rfl ?_
    simp only [nz1, nz2, nz3]
    refine lst_skip 25 rfl rfl ?_
    simp only [nz1, nz2, nz3]
    refine lst_skip 26 rfl rfl ?_
    simp only [nz1, nz2, nz3]
    refine lvw 27 (.bool true) rfl rfl (run_pick rfl rfl rfl) ?_
    simp only [nz1, nz2, nz3]
    refine wpList_nil ?_
    refine then_n (hK6 _ _ ?_)
    refine cond_t rfl ?_
    refine wp_seq_k (fun K15 hK15 => ?_)
    refine wp_region_lit ?_
    refine lvw 2 (.string (tx ([]))) rfl rfl (run_as rfl rfl) ?_
    simp only [nz1, nz2, nz3]
    refine lvw 3 (.int .i64 3) rfl rfl (run_as rfl rfl) ?_
    simp only [nz1, nz2, nz3]
    refine wpList_nil ?_
    refine then_n (hK15 _ _ ?_)
    refine wp_ret ?_
    refine then_r ?_
    have he16 : hencode_m h = (([]), 3) := (show hencode_m h = (([]), 3) from by unfold hencode_m; rw [if_neg hs9, if_pos hs14] <;> rfl)
    exact ⟨rfl, .tuple #[.string (tx ([])), .int .i64 3], res_tt rfl rfl rfl, ⟨by (rw [he16]; try rfl), hm13.below⟩⟩
  simp only [nz1, nz2, nz3]
  refine lvw 21 (.bool false) rfl rfl (run_pickf rfl rfl rfl) ?_
  simp only [nz1, nz2, nz3]
  refine lvw 22 (.bool false) rfl rfl (run_mv rfl rfl) ?_
  simp only [nz1, nz2, nz3]
  refine lvw 23 (.pointer (some ⟨g4, 8, none⟩)) rfl rfl (r_fa23_8 g4 0 rfl rfl) ?_
  simp only [nz1, nz2, nz3]
  refine lvw 24 (.string (tx h.pfx)) rfl rfl (r_load (hm13.at 0 rfl) rfl Tryd.underlying9 rfl rfl rfl) ?_
  simp only [nz1, nz2, nz3]
  refine lst rfl (m_call hm13 25 (.bool (decide ((((h.pfx.length : Nat) : Int) ≤ 155 ∧ ib_m h.pfx 0 < 0)))) rfl (run_fits rfl rfl rfl) (fitsd_any h.pfx 155  _  ) (fun w17 (hm18 : Mm none (fun _ => True) w w17 [.blk g4 #[.string (tx h.name), .int .i64 (h.mode), .int .i64 (h.uid), .int .i64 (h.gid), .int .i64 (h.size), .int .i64 (h.time), .int .u8 ((h.flag.toNat : Nat) : Int), .string (tx h.link), .string (tx h.pfx)] 23]) => ?_))
  simp only [nz1, nz2, nz3]
  refine lvw 26 (.bool (decide (¬ ((((h.pfx.length : Nat) : Int) ≤ 155 ∧ ib_m h.pfx 0 < 0))))) rfl rfl (r_notD ((((h.pfx.length : Nat) : Int) ≤ 155 ∧ ib_m h.pfx 0 < 0)) rfl rfl) ?_
  simp only [nz1, nz2, nz3]
  refine lvw 27 (.bool (decide (¬ ((((h.pfx.length : Nat) : Int) ≤ 155 ∧ ib_m h.pfx 0 < 0))))) rfl rfl (run_pickf rfl rfl rfl) ?_
  simp only [nz1, nz2, nz3]
  refine wpList_nil ?_
  refine then_n (hK6 _ _ ?_)
  refine cond_d (¬ ((((h.pfx.length : Nat) : Int) ≤ 155 ∧ ib_m h.pfx 0 < 0))) rfl (fun hc19 => ?_) (fun hc19 => ?_)
  · refine wp_seq_k (fun K20 hK20 => ?_)
    refine wp_region_lit ?_
    refine lvw 2 (.string (tx ([]))) rfl rfl (run_as rfl rfl) ?_
    simp only [nz1, nz2, nz3]
    refine lvw 3 (.int .i64 3) rfl rfl (run_as rfl rfl) ?_
    simp only [nz1, nz2, nz3]
    refine wpList_nil ?_
    refine then_n (hK20 _ _ ?_)
    refine wp_ret ?_
    refine then_r ?_
    have he21 : hencode_m h = (([]), 3) := (show hencode_m h = (([]), 3) from by unfold hencode_m; rw [if_neg hs9, if_neg hs14, if_pos hc19] <;> rfl)
    exact ⟨rfl, .tuple #[.string (tx ([])), .int .i64 3], res_tt rfl rfl rfl, ⟨by (rw [he21]; try rfl), hm18.below⟩⟩
  refine wp_skip ?_
  refine then_n (hK5 _ _ ?_)
  refine wp_seq_k (fun K22 hK22 => ?_)
  refine wp_region_lit ?_
  refine lvw 28 (.pointer (some ⟨g4, 1, none⟩)) rfl rfl (r_fa23_1 g4 0 rfl rfl) ?_
  simp only [nz1, nz2, nz3]
  refine lvw 29 (.int .i64 (h.mode)) rfl rfl (r_load (hm18.at 0 rfl) rfl Tryd.underlying3 rfl rfl rfl) ?_
  simp only [nz1, nz2, nz3]
  refine lvw 30 (.pointer (some ⟨g4, 2, none⟩)) rfl rfl (r_fa23_2 g4 0 rfl rfl) ?_
  simp only [nz1, nz2, nz3]
  refine lvw 31 (.int .i64 (h.uid)) rfl rfl (r_load (hm18.at 0 rfl) rfl Tryd.underlying3 rfl rfl rfl) ?_
  simp only [nz1, nz2, nz3]
  refine lvw 32 (.pointer (some ⟨g4, 3, none⟩)) rfl rfl (r_fa23_3 g4 0 rfl rfl) ?_
  simp only [nz1, nz2, nz3]
  refine lvw 33 (.int .i64 (h.gid)) rfl rfl (r_load (hm18.at 0 rfl) rfl Tryd.underlying3 rfl rfl rfl) ?_
  simp only [nz1, nz2, nz3]
  refine lvw 34 (.pointer (some ⟨g4, 4, none⟩)) rfl rfl (r_fa23_4 g4 0 rfl rfl) ?_
  simp only [nz1, nz2, nz3]
  refine lvw 35 (.int .i64 (h.size)) rfl rfl (r_load (hm18.at 0 rfl) rfl Tryd.underlying3 rfl rfl rfl) ?_
  simp only [nz1, nz2, nz3]
  refine lvw 36 (.pointer (some ⟨g4, 5, none⟩)) rfl rfl (r_fa23_5 g4 0 rfl rfl) ?_
  simp only [nz1, nz2, nz3]
  refine lvw 37 (.int .i64 (h.time)) rfl rfl (r_load (hm18.at 0 rfl) rfl Tryd.underlying3 rfl rfl rfl) ?_
  simp only [nz1, nz2, nz3]
  refine lvw 38 (.agg #[.int .i64 (h.mode), .int .i64 (h.uid), .int .i64 (h.gid), .int .i64 (h.size), .int .i64 (h.time)]) rfl rfl (by unfold execOp; go_simp; try (first | rfl | (repeat' (first | rfl | apply And.intro)))) ?_
  simp only [nz1, nz2, nz3]
  refine lst rfl (m_alloc (c := #[.int .i64 0, .int .i64 0, .int .i64 0, .int .i64 0, .int .i64 0]) (T := 51) hm18 4 rfl (by unfold execOp; go_simp; try rfl) (fun g25 w23 (hm24 : Mm none (fun _ => True) w w23 [.blk g4 #[.string (tx h.name), .int .i64 (h.mode), .int .i64 (h.uid), .int .i64 (h.gid), .int .i64 (h.size), .int .i64 (h.time), .int .u8 ((h.flag.toNat : Nat) : Int), .string (tx h.link), .string (tx h.pfx)] 23, .blk g25 #[.int .i64 0, .int .i64 0, .int .i64 0, .int .i64 0, .int .i64 0] 51]) => ?_))
  simp only [nz1, nz2, nz3]
  refine lst rfl (m_store 1 51 _ _ 0 (.agg #[.int .i64 (h.mode), .int .i64 (h.uid), .int .i64 (h.gid), .int .i64 (h.size), .int .i64 (h.time)]) (old := #[.int .i64 0, .int .i64 0, .int .i64 0, .int .i64 0, .int .i64 0]) (new := #[.int .i64 (h.mode), .int .i64 (h.uid), .int .i64 (h.gid), .int .i64 (h.size), .int .i64 (h.time)]) hm24 rfl rfl rfl rfl rfl (by exact sz_51) (show 0 + 5 ≤ 5 from by decide) (by simp [Value.cells, Value.oneCell']) rfl (fun w26 (hm27 : Mm none (fun _ => True) w w26 [.blk g4 #[.string (tx h.name), .int .i64 (h.mode), .int .i64 (h.uid), .int .i64 (h.gid), .int .i64 (h.size), .int .i64 (h.time), .int .u8 ((h.flag.toNat : Nat) : Int), .string (tx h.link), .string (tx h.pfx)] 23, .blk g25 #[.int .i64 (h.mode), .int .i64 (h.uid), .int .i64 (h.gid), .int .i64 (h.size), .int .i64 (h.time)] 51]) => ?_))
  refine wpList_nil ?_
  refine then_n (hK22 _ _ ?_)
  refine wp_seq_k (fun K28 hK28 => ?_)
  refine wp_region_lit ?_
  refine lvw 39 (.pointer (some ⟨g4, 0, none⟩)) rfl rfl (r_fa23_0 g4 0 rfl rfl) ?_
  simp only [nz1, nz2, nz3]
  refine lvw 40 (.string (tx h.name)) rfl rfl (r_load (hm27.at 0 rfl) rfl Tryd.underlying9 rfl rfl rfl) ?_
  simp only [nz1, nz2, nz3]
  refine lst rfl (m_call hm27 41 (.string (tx (fill_m h.name 100))) rfl (run_fill rfl rfl rfl) (fill_any h.name 100  _  (by first | omega | assumption | (simp; done) | (simp; omega) | (simp only [List.length_append, List.length_cons, List.length_nil]; omega) | (simp only [List.length_append, List.length_cons, List.length_nil] at *; omega) | decide) (by first | omega | assumption | (simp; done) | (simp; omega) | (simp only [List.length_append, List.length_cons, List.length_nil]; omega) | (simp only [List.length_append, List.length_cons, List.length_nil] at *; omega) | decide)) (fun w29 (hm30 : Mm none (fun _ => True) w w29 [.blk g4 #[.string (tx h.name), .int .i64 (h.mode), .int .i64 (h.uid), .int .i64 (h.gid), .int .i64 (h.size), .int .i64 (h.time), .int .u8 ((h.flag.toNat : Nat) : Int), .string (tx h.link), .string (tx h.pfx)] 23, .blk g25 #[.int .i64 (h.mode), .int .i64 (h.uid), .int .i64 (h.gid), .int .i64 (h.size), .int .i64 (h.time)] 51]) => ?_))
  have hf31 : (((fill_m h.name 100).length : Nat) : Int) = 100 := fill_len h.name 100 (by first | omega | (simp; done) | (simp; omega))
  simp only [nz1, nz2, nz3]
  refine lvw 5 (.string (tx (fill_m h.name 100))) rfl rfl (run_as rfl rfl) ?_
  simp only [nz1, nz2, nz3]
  refine wpList_nil ?_
  refine then_n (hK28 _ _ ?_)
  refine wp_seq_k (fun K32 hK32 => ?_)
  refine wp_seq_k (fun K33 hK33 => ?_)
  refine wp_region_lit ?_
  refine lvw 42 (.int .i64 0) rfl rfl (run_mv rfl rfl) ?_
  simp only [nz1, nz2, nz3]
  refine wpList_nil ?_
  refine then_n (hK33 _ _ ?_)
  refine wp_cutK (fun a' w' => ∃ (y39 : List UInt8) (y40 : Nat) (yu0 : Nat → Value), hencode_m_l0 h ((5 - 0) + 1) ((fill_m h.name 100), 0) = .inl (y39, y40) ∧ (y39.length ≤ 100 + 12 * y40 ∧ y40 ≤ 5) ∧ a' = ⟨#[.agg #[.string (tx h.name), .int .i64 (h.mode), .int .i64 (h.uid), .int .i64 (h.gid), .int .i64 (h.size), .int .i64 (h.time), .int .u8 ((h.flag.toNat : Nat) : Int), .string (tx h.link), .string (tx h.pfx)], .pointer (some ⟨g4, 0, none⟩), yu0 0, yu0 1, .pointer (some ⟨g25, 0, none⟩), .string (tx y39), yu0 2, yu0 3, yu0 4, undef, undef, undef, .pointer (some ⟨g4, 0, none⟩), .string (tx h.name), .bool (decide ((((h.name.length : Nat) : Int) ≤ 100 ∧ ib_m h.name 0 < 0))), .bool false, .bool false, .pointer (some ⟨g4, 7, none⟩), .string (tx h.link), .bool (decide ((((h.link.length : Nat) : Int) ≤ 100 ∧ ib_m h.link 0 < 0))), .bool false, .bool false, .bool false, .pointer (some ⟨g4, 8, none⟩), .string (tx h.pfx), .bool (decide ((((h.pfx.length : Nat) : Int) ≤ 155 ∧ ib_m h.pfx 0 < 0))), .bool (decide (¬ ((((h.pfx.length : Nat) : Int) ≤ 155 ∧ ib_m h.pfx 0 < 0)))), .bool (decide (¬ ((((h.pfx.length : Nat) : Int) ≤ 155 ∧ ib_m h.pfx 0 < 0)))), .pointer (some ⟨g4, 1, none⟩), .int .i64 (h.mode), .pointer (some ⟨g4, 2, none⟩), .int .i64 (h.uid), .pointer (some ⟨g4, 3, none⟩), .int .i64 (h.gid), .pointer (some ⟨g4, 4, none⟩), .int .i64 (h.size), .pointer (some ⟨g4, 5, none⟩), .int .i64 (h.time), .agg #[.int .i64 (h.mode), .int .i64 (h.uid), .int .i64 (h.gid), .int .i64 (h.size), .int .i64 (h.time)], .pointer (some ⟨g4, 0, none⟩), .string (tx h.name), .string (tx (fill_m h.name 100)), .int .i64 ((y40 : Nat) : Int), yu0 5, yu0 6, yu0 7, yu0 8, yu0 9, yu0 10, yu0 11, yu0 12, yu0 13, yu0 14, yu0 15, yu0 16, yu0 17, yu0 18, yu0 19, yu0 20, yu0 21, yu0 22, yu0 23, undef, undef, undef, undef, undef, undef, undef, undef, undef, undef, undef, undef, undef, undef, undef, undef, undef, undef, undef, undef, undef, undef, undef, undef, undef, undef, undef, undef, undef, undef, undef, undef, undef], []⟩ ∧ Mm none (fun _ => True) w w' [.blk g4 #[.string (tx h.name), .int .i64 (h.mode), .int .i64 (h.uid), .int .i64 (h.gid), .int .i64 (h.size), .int .i64 (h.time), .int .u8 ((h.flag.toNat : Nat) : Int), .string (tx h.link), .string (tx h.pfx)] 23, .blk g25 #[.int .i64 (h.mode), .int .i64 (h.uid), .int .i64 (h.gid), .int .i64 (h.size), .int .i64 (h.time)] 51]) ?_ ?_
  · refine wp_block ?_
    refine wp_loop_n (fun n' a' w' => ∃ (n36 : Nat) (x34 : List UInt8) (x35 : Nat) (u0 : Nat → Value), n' = n36 ∧ (5 - x35) < n36 ∧ hencode_m_l0 h ((5 - 0) + 1) ((fill_m h.name 100), 0) = hencode_m_l0 h n36 (x34, x35) ∧ (x34.length ≤ 100 + 12 * x35 ∧ x35 ≤ 5) ∧ a' = ⟨#[.agg #[.string (tx h.name), .int .i64 (h.mode), .int .i64 (h.uid), .int .i64 (h.gid), .int .i64 (h.size), .int .i64 (h.time), .int .u8 ((h.flag.toNat : Nat) : Int), .string (tx h.link), .string (tx h.pfx)], .pointer (some ⟨g4, 0, none⟩), u0 0, u0 1, .pointer (some ⟨g25, 0, none⟩), .string (tx x34), u0 2, u0 3, u0 4, undef, undef, undef, .pointer (some ⟨g4, 0, none⟩), .string (tx h.name), .bool (decide ((((h.name.length : Nat) : Int) ≤ 100 ∧ ib_m h.name 0 < 0))), .bool false, .bool false, .pointer (some ⟨g4, 7, none⟩), .string (tx h.link), .bool (decide ((((h.link.length : Nat) : Int) ≤ 100 ∧ ib_m h.link 0 < 0))), .bool false, .bool false, .bool false, .pointer (some ⟨g4, 8, none⟩), .string (tx h.pfx), .bool (decide ((((h.pfx.length : Nat) : Int) ≤ 155 ∧ ib_m h.pfx 0 < 0))), .bool (decide (¬ ((((h.pfx.length : Nat) : Int) ≤ 155 ∧ ib_m h.pfx 0 < 0)))), .bool (decide (¬ ((((h.pfx.length : Nat) : Int) ≤ 155 ∧ ib_m h.pfx 0 < 0)))), .pointer (some ⟨g4, 1, none⟩), .int .i64 (h.mode), .pointer (some ⟨g4, 2, none⟩), .int .i64 (h.uid), .pointer (some ⟨g4, 3, none⟩), .int .i64 (h.gid), .pointer (some ⟨g4, 4, none⟩), .int .i64 (h.size), .pointer (some ⟨g4, 5, none⟩), .int .i64 (h.time), .agg #[.int .i64 (h.mode), .int .i64 (h.uid), .int .i64 (h.gid), .int .i64 (h.size), .int .i64 (h.time)], .pointer (some ⟨g4, 0, none⟩), .string (tx h.name), .string (tx (fill_m h.name 100)), .int .i64 ((x35 : Nat) : Int), u0 5, u0 6, u0 7, u0 8, u0 9, u0 10, u0 11, u0 12, u0 13, u0 14, u0 15, u0 16, u0 17, u0 18, u0 19, u0 20, u0 21, u0 22, u0 23, undef, undef, undef, undef, undef, undef, undef, undef, undef, undef, undef, undef, undef, undef, undef, undef, undef, undef, undef, undef, undef, undef, undef, undef, undef, undef, undef, undef, undef, undef, undef, undef, undef], []⟩ ∧ Mm none (fun _ => True) w w' [.blk g4 #[.string (tx h.name), .int .i64 (h.mode), .int .i64 (h.uid), .int .i64 (h.gid), .int .i64 (h.size), .int .i64 (h.time), .int .u8 ((h.flag.toNat : Nat) : Int), .string (tx h.link), .string (tx h.pfx)] 23, .blk g25 #[.int .i64 (h.mode), .int .i64 (h.uid), .int .i64 (h.gid), .int .i64 (h.size), .int .i64 (h.time)] 51]) ⟨((5 - 0) + 1), (fill_m h.name 100), 0, (fun qq => List.getD [.string (tx ([])), .int .i64 0, undef, undef, undef, undef, undef, undef, undef, undef, undef, undef, undef, undef, undef, undef, undef, undef, undef, undef, undef, undef, undef, undef] qq undef), rfl, Nat.lt_succ_self _, rfl, (by first | omega | (simp; done) | (simp; omega) | (simp at *; omega)), rfl, hm30⟩ ?_
    rintro n36 _ w42 ⟨_, x34, x35, u0, rfl, hl46, hi38, hel, rfl, hm43⟩ R44 hR44
    obtain ⟨k37, rfl⟩ : ∃ k, n36 = k + 1 := ⟨n36 - 1, by omega⟩
    refine wp_seq_k (fun K47 hK47 => ?_)
    refine wp_region_lit ?_
    refine lvw 43 (.bool (decide (x35 < 5))) rfl rfl (r_lss x35 5 rfl rfl rfl) ?_
    simp only [nz1, nz2, nz3]
    refine wpList_nil ?_
    refine then_n (hK47 _ _ ?_)
    refine wp_seq_k (fun K48 hK48 => ?_)
    refine cond_d (x35 < 5) rfl (fun hc49 => ?_) (fun hc49 => ?_)
    rotate_left
    · refine wp_exit ?_
      refine then_x ?_
      refine then_x ?_
      refine blk_x ?_
      refine then_n ?_
      exact ⟨x34, x35, (fun qq => List.getD [u0 0, u0 1, u0 2, u0 3, u0 4, .bool (decide (x35 < 5)), u0 6, u0 7, u0 8, u0 9, u0 10, u0 11, u0 12, u0 13, u0 14, u0 15, u0 16, u0 17, u0 18, u0 19, u0 20, u0 21, u0 22, u0 23] qq undef), (hi38.trans (show hencode_m_b0 h (hencode_m_l0 h k37) x34 x35 = .inl (x34, x35) from by unfold hencode_m_b0; rw [if_neg hc49] <;> rfl)), (by first | omega | (simp; done) | (simp; omega) | (simp at *; omega)), rfl, hm43⟩
    refine wp_skip ?_
    refine then_n (hK48 _ _ ?_)
    refine wp_seq_k (fun K50 hK50 => ?_)
    refine wp_block ?_
    refine wp_seq_k (fun K51 hK51 => ?_)
    refine wp_region_lit ?_
    refine lvw 44 (.int .i64 ((x35 : Nat) : Int)) rfl rfl (run_mv rfl rfl) ?_
    simp only [nz1, nz2, nz3]
    refine lvw 6 (.int .i64 ((x35 : Nat) : Int)) rfl rfl (run_as rfl rfl) ?_
    simp only [nz1, nz2, nz3]
    refine wpList_nil ?_
    refine then_n (hK51 _ _ ?_)
    refine wp_seq_k (fun K52 hK52 => ?_)
    have hm53 := hm43.drew
    refine wp_region_held_drew (S := fun w' => Mem.Blk w' g25 (#[.int .i64 (h.mode), .int .i64 (h.uid), .int .i64 (h.gid), .int .i64 (h.size), .int .i64 (h.time)]) 51) (by kernel_rfl) (hm53.at 1 rfl) (fun _ => ?_)
    generalize w42.drew = w54 at *
    refine tk 0 46 (.int .i64 ((x35 : Nat) : Int)) rfl rfl (fun _ hw => run_mv rfl rfl) (hm53.at 1 rfl) ?_
    simp only [nz1, nz2, nz3]
    by_cases hx55 : x35 = 0
    · refine tk 1 47 (.pointer (some ⟨g25, 0, none⟩)) rfl rfl (fun _ hw => Sx.r_ix g25 0 (by decide) Tryd.underlying51 sz_3 rfl rfl (show (Value.int .i64 ((x35 : Nat) : Int)) = .int .i64 (((0 : Nat)) : Int) from by congr 1; omega)) (hm53.at 1 rfl) ?_
      simp only [nz1, nz2, nz3]
      refine tk 2 48 (.int .i64 (h.mode)) rfl rfl (fun _ hw => r_load hw rfl Tryd.underlying3 rfl rfl rfl) (hm53.at 1 rfl) ?_
      simp only [nz1, nz2, nz3]
      refine tk 3 49 (.int .i64 ((x35 : Nat) : Int)) rfl rfl (fun _ hw => run_mv rfl rfl) (hm53.at 1 rfl) ?_
      simp only [nz1, nz2, nz3]
      refine tk 4 50 (.pointer (some ⟨0, 0, none⟩)) rfl rfl (fun _ hw => Sx.r_ix 0 0 (by decide) Tryd.underlying51 sz_3 rfl rfl (show (Value.int .i64 ((x35 : Nat) : Int)) = .int .i64 (((0 : Nat)) : Int) from by congr 1; omega)) (hm53.at 1 rfl) ?_
      simp only [nz1, nz2, nz3]
      refine one_ready 5 (by kernel_rfl) ?_
      refine opd rfl (wanted_none rfl) (w_value 51 (.int .i64 8) rfl (r_cellw ((Laid.below hT hm53.below).wid 0 _ rfl) Tryd.underlying3 rfl rfl rfl) ⟨hm53.at 1 rfl, ?_⟩)
      simp only [nz1, nz2, nz3]
      refine one_ready 6 (by kernel_rfl) ?_
      refine opd rfl (wanted_none rfl) (m_call hm53 52 (.tuple #[.string (tx ((put_m h.mode 8).1)), .int .i64 ((put_m h.mode 8).2)]) rfl (run_put rfl rfl rfl) (put_any h.mode 8  _  (by first | omega | assumption | (simp; done) | (simp; omega) | (simp only [List.length_append, List.length_cons, List.length_nil]; omega) | (simp only [List.length_append, List.length_cons, List.length_nil] at *; omega) | decide)) (fun w56 (hm57 : Mm none (fun _ => True) w w56 [.blk g4 #[.string (tx h.name), .int .i64 (h.mode), .int .i64 (h.uid), .int .i64 (h.gid), .int .i64 (h.size), .int .i64 (h.time), .int .u8 ((h.flag.toNat : Nat) : Int), .string (tx h.link), .string (tx h.pfx)] 23, .blk g25 #[.int .i64 (h.mode), .int .i64 (h.uid), .int .i64 (h.gid), .int .i64 (h.size), .int .i64 (h.time)] 51]) => ?_))
      have hf58 : ¬ (put_m h.mode 8).2 = 0 ∨ (((put_m h.mode 8).1.length : Nat) : Int) = 8 := put_len h.mode 8
      refine ⟨hm57.at 1 rfl, ?_⟩
      simp only [nz1, nz2, nz3]
      refine tk 7 45 (.tuple #[.string (tx ((put_m h.mode 8).1)), .int .i64 ((put_m h.mode 8).2)]) rfl rfl (fun _ hw => run_mv rfl rfl) (hm57.at 1 rfl) ?_
      simp only [nz1, nz2, nz3]
      refine tk 8 53 (.string (tx ((put_m h.mode 8).1))) rfl rfl (fun _ hw => run_ex rfl rfl rfl) (hm57.at 1 rfl) ?_
      simp only [nz1, nz2, nz3]
      refine tk 9 54 (.int .i64 ((put_m h.mode 8).2)) rfl rfl (fun _ hw => run_ex rfl rfl rfl) (hm57.at 1 rfl) ?_
      simp only [nz1, nz2, nz3]
      refine one_ready 10 (by kernel_rfl) ?_
      refine opd rfl (wanted_none rfl) (w_value 7 (.string (tx ((put_m h.mode 8).1))) rfl (run_as rfl rfl) ⟨hm57.at 1 rfl, ?_⟩)
      simp only [nz1, nz2, nz3]
      refine one_ready 11 (by kernel_rfl) ?_
      refine opd rfl (wanted_none rfl) (w_value 8 (.int .i64 ((put_m h.mode 8).2)) rfl (run_as rfl rfl) ⟨hm57.at 1 rfl, ?_⟩)
      simp only [nz1, nz2, nz3]
      refine wpAnyH_done (by kernel_rfl) ?_ _
      refine then_n (hK52 _ _ ?_)
      refine wp_seq_k (fun K59 hK59 => ?_)
      refine wp_seq_k (fun K60 hK60 => ?_)
      refine wp_region_lit ?_
      refine lvw 55 (.int .i64 ((put_m h.mode 8).2)) rfl rfl (run_mv rfl rfl) ?_
      simp only [nz1, nz2, nz3]
      refine lvw 56 (.bool (decide (¬ (put_m h.mode 8).2 = 0))) rfl rfl (z_neq ((put_m h.mode 8).2) 0 rfl rfl rfl) ?_
      simp only [nz1, nz2, nz3]
      refine wpList_nil ?_
      refine then_n (hK60 _ _ ?_)
      refine cond_d (¬ (put_m h.mode 8).2 = 0) rfl (fun hc61 => ?_) (fun hc61 => ?_)
      · refine wp_seq_k (fun K62 hK62 => ?_)
        refine wp_region_lit ?_
        refine lvw 57 (.int .i64 ((put_m h.mode 8).2)) rfl rfl (run_mv rfl rfl) ?_
        simp only [nz1, nz2, nz3]
        refine lvw 2 (.string (tx ([]))) rfl rfl (run_as rfl rfl) ?_
        simp only [nz1, nz2, nz3]
        refine lvw 3 (.int .i64 ((put_m h.mode 8).2)) rfl rfl (run_as rfl rfl) ?_
        simp only [nz1, nz2, nz3]
        refine wpList_nil ?_
        refine then_n (hK62 _ _ ?_)
        refine wp_ret ?_
        refine then_r ?_
        refine blk_r ?_
        refine then_r ?_
        refine then_r ?_
        refine blk_r ?_
        refine then_r ?_
        refine then_r ?_
        have he63 : hencode_m_l0 h ((5 - 0) + 1) ((fill_m h.name 100), 0) = .inr (([]), (put_m h.mode 8).2) := (hi38.trans (show hencode_m_b0 h (hencode_m_l0 h k37) x34 x35 = .inr (([]), (put_m h.mode 8).2) from by unfold hencode_m_b0; rw [if_pos hc49, if_pos hx55, if_pos hc61] <;> rfl))
        have he64 : hencode_m h = (([]), (put_m h.mode 8).2) := (show hencode_m h = (([]), (put_m h.mode 8).2) from by unfold hencode_m; rw [if_neg hs9, if_neg hs14, if_neg hc19, he63] <;> rfl)
        exact ⟨rfl, .tuple #[.string (tx ([])), .int .i64 ((put_m h.mode 8).2)], res_tt rfl rfl rfl, ⟨by (rw [he64]; try rfl), hm57.below⟩⟩
      refine wp_skip ?_
      refine then_n (hK59 _ _ ?_)
      refine wp_region_lit ?_
      refine lvw 58 (.string (tx x34)) rfl rfl (run_mv rfl rfl) ?_
      simp only [nz1, nz2, nz3]
      refine lvw 59 (.string (tx ((put_m h.mode 8).1))) rfl rfl (run_mv rfl rfl) ?_
      simp only [nz1, nz2, nz3]
      refine lvw 60 (.string (tx (x34 ++ (put_m h.mode 8).1))) rfl rfl (t_cat x34 ((put_m h.mode 8).1) (by first | omega | (simp; omega) | (simp only [List.length_append, List.length_cons, List.length_nil] at *; omega)) rfl rfl rfl) ?_
      simp only [nz1, nz2, nz3]
      refine lvw 5 (.string (tx (x34 ++ (put_m h.mode 8).1))) rfl rfl (run_as rfl rfl) ?_
      simp only [nz1, nz2, nz3]
      refine wpList_nil ?_
      refine blk_n ?_
      refine then_n (hK50 _ _ ?_)
      refine wp_region_lit ?_
      refine lvw 61 (.int .i64 (((x35 + 1) : Nat) : Int)) rfl rfl (r_add x35 1 (show (x35 + 1) < 9223372036854775808 from by omega) rfl rfl rfl) ?_
      simp only [nz1, nz2, nz3]
      refine lvw 42 (.int .i64 (((x35 + 1) : Nat) : Int)) rfl rfl (run_mv rfl rfl) ?_
      simp only [nz1, nz2, nz3]
      refine wpList_nil ?_
      refine then_n (hR44 _ _ _ ⟨k37, (x34 ++ (put_m h.mode 8).1), (x35 + 1), (fun qq => List.getD [u0 0, u0 1, .int .i64 ((x35 : Nat) : Int), .string (tx ((put_m h.mode 8).1)), .int .i64 ((put_m h.mode 8).2), .bool (decide (x35 < 5)), .int .i64 ((x35 : Nat) : Int), .tuple #[.string (tx ((put_m h.mode 8).1)), .int .i64 ((put_m h.mode 8).2)], .int .i64 ((x35 : Nat) : Int), .pointer (some ⟨g25, 0, none⟩), .int .i64 (h.mode), .int .i64 ((x35 : Nat) : Int), .pointer (some ⟨0, 0, none⟩), .int .i64 8, .tuple #[.string (tx ((put_m h.mode 8).1)), .int .i64 ((put_m h.mode 8).2)], .string (tx ((put_m h.mode 8).1)), .int .i64 ((put_m h.mode 8).2), .int .i64 ((put_m h.mode 8).2), .bool (decide (¬ (put_m h.mode 8).2 = 0)), u0 19, .string (tx x34), .string (tx ((put_m h.mode 8).1)), .string (tx (x34 ++ (put_m h.mode 8).1)), .int .i64 (((x35 + 1) : Nat) : Int)] qq undef), rfl, (by first | omega | (simp; omega) | (simp at *; omega)), (hi38.trans (show hencode_m_b0 h (hencode_m_l0 h k37) x34 x35 = hencode_m_l0 h k37 ((x34 ++ (put_m h.mode 8).1), (x35 + 1)) from by unfold hencode_m_b0; rw [if_pos hc49, if_pos hx55, if_neg hc61] <;> rfl)), (by rw [List.length_append]; omega), rfl, hm57⟩ ?_)
      omega
    by_cases hx65 : x35 = 1
    · refine tk 1 47 (.pointer (some ⟨g25, 1, none⟩)) rfl rfl (fun _ hw => Sx.r_ix g25 1 (by decide) Tryd.underlying51 sz_3 rfl rfl (show (Value.int .i64 ((x35 : Nat) : Int)) = .int .i64 (((1 : Nat)) : Int) from by congr 1; omega)) (hm53.at 1 rfl) ?_
      simp only [nz1, nz2, nz3]
      refine tk 2 48 (.int .i64 (h.uid)) rfl rfl (fun _ hw => r_load hw rfl Tryd.underlying3 rfl rfl rfl) (hm53.at 1 rfl) ?_
      simp only [nz1, nz2, nz3]
      refine tk 3 49 (.int .i64 ((x35 : Nat) : Int)) rfl rfl (fun _ hw => run_mv rfl rfl) (hm53.at 1 rfl) ?_
      simp only [nz1, nz2, nz3]
      refine tk 4 50 (.pointer (some ⟨0, 1, none⟩)) rfl rfl (fun _ hw => Sx.r_ix 0 1 (by decide) Tryd.underlying51 sz_3 rfl rfl (show (Value.int .i64 ((x35 : Nat) : Int)) = .int .i64 (((1 : Nat)) : Int) from by congr 1; omega)) (hm53.at 1 rfl) ?_
      simp only [nz1, nz2, nz3]
      refine one_ready 5 (by kernel_rfl) ?_
      refine opd rfl (wanted_none rfl) (w_value 51 (.int .i64 8) rfl (r_cellw ((Laid.below hT hm53.below).wid 1 _ rfl) Tryd.underlying3 rfl rfl rfl) ⟨hm53.at 1 rfl, ?_⟩)
      simp only [nz1, nz2, nz3]
      refine one_ready 6 (by kernel_rfl) ?_
      refine opd rfl (wanted_none rfl) (m_call hm53 52 (.tuple #[.string (tx ((put_m h.uid 8).1)), .int .i64 ((put_m h.uid 8).2)]) rfl (run_put rfl rfl rfl) (put_any h.uid 8  _  (by first | omega | assumption | (simp; done) | (simp; omega) | (simp only [List.length_append, List.length_cons, List.length_nil]; omega) | (simp only [List.length_append, List.length_cons, List.length_nil] at *; omega) | decide)) (fun w66 (hm67 : Mm none (fun _ => True) w w66 [.blk g4 #[.string (tx h.name), .int .i64 (h.mode), .int .i64 (h.uid), .int .i64 (h.gid), .int .i64 (h.size), .int .i64 (h.time), .int .u8 ((h.flag.toNat : Nat) : Int), .string (tx h.link), .string (tx h.pfx)] 23, .blk g25 #[.int .i64 (h.mode), .int .i64 (h.uid), .int .i64 (h.gid), .int .i64 (h.size), .int .i64 (h.time)] 51]) => ?_))
      have hf68 : ¬ (put_m h.uid 8).2 = 0 ∨ (((put_m h.uid 8).1.length : Nat) : Int) = 8 := put_len h.uid 8
      refine ⟨hm67.at 1 rfl, ?_⟩
      simp only [nz1, nz2, nz3]
      refine tk 7 45 (.tuple #[.string (tx ((put_m h.uid 8).1)), .int .i64 ((put_m h.uid 8).2)]) rfl rfl (fun _ hw => run_mv rfl rfl) (hm67.at 1 rfl) ?_
      simp only [nz1, nz2, nz3]
      refine tk 8 53 (.string (tx ((put_m h.uid 8).1))) rfl rfl (fun _ hw => run_ex rfl rfl rfl) (hm67.at 1 rfl) ?_
      simp only [nz1, nz2, nz3]
      refine tk 9 54 (.int .i64 ((put_m h.uid 8).2)) rfl rfl (fun _ hw => run_ex rfl rfl rfl) (hm67.at 1 rfl) ?_
      simp only [nz1, nz2, nz3]
      refine one_ready 10 (by kernel_rfl) ?_
      refine opd rfl (wanted_none rfl) (w_value 7 (.string (tx ((put_m h.uid 8).1))) rfl (run_as rfl rfl) ⟨hm67.at 1 rfl, ?_⟩)
      simp only [nz1, nz2, nz3]
      refine one_ready 11 (by kernel_rfl) ?_
      refine opd rfl (wanted_none rfl) (w_value 8 (.int .i64 ((put_m h.uid 8).2)) rfl (run_as rfl rfl) ⟨hm67.at 1 rfl, ?_⟩)
      simp only [nz1, nz2, nz3]
      refine wpAnyH_done (by kernel_rfl) ?_ _
      refine then_n (hK52 _ _ ?_)
      refine wp_seq_k (fun K69 hK69 => ?_)
      refine wp_seq_k (fun K70 hK70 => ?_)
      refine wp_region_lit ?_
      refine lvw 55 (.int .i64 ((put_m h.uid 8).2)) rfl rfl (run_mv rfl rfl) ?_
      simp only [nz1, nz2, nz3]
      refine lvw 56 (.bool (decide (¬ (put_m h.uid 8).2 = 0))) rfl rfl (z_neq ((put_m h.uid 8).2) 0 rfl rfl rfl) ?_
      simp only [nz1, nz2, nz3]
      refine wpList_nil ?_
      refine then_n (hK70 _ _ ?_)
      refine cond_d (¬ (put_m h.uid 8).2 = 0) rfl (fun hc71 => ?_) (fun hc71 => ?_)
      · refine wp_seq_k (fun K72 hK72 => ?_)
        refine wp_region_lit ?_
        refine lvw 57 (.int .i64 ((put_m h.uid 8).2)) rfl rfl (run_mv rfl rfl) ?_
        simp only [nz1, nz2, nz3]
        refine lvw 2 (.string (tx ([]))) rfl rfl (run_as rfl rfl) ?_
        simp only [nz1, nz2, nz3]
        refine lvw 3 (.int .i64 ((put_m h.uid 8).2)) rfl rfl (run_as rfl rfl) ?_
        simp only [nz1, nz2, nz3]
        refine wpList_nil ?_
        refine then_n (hK72 _ _ ?_)
        refine wp_ret ?_
        refine then_r ?_
        refine blk_r ?_
        refine then_r ?_
        refine then_r ?_
        refine blk_r ?_
        refine then_r ?_
        refine then_r ?_
        have he73 : hencode_m_l0 h ((5 - 0) + 1) ((fill_m h.name 100), 0) = .inr (([]), (put_m h.uid 8).2) := (hi38.trans (show hencode_m_b0 h (hencode_m_l0 h k37) x34 x35 = .inr (([]), (put_m h.uid 8).2) from by unfold hencode_m_b0; rw [if_pos hc49, if_neg hx55, if_pos hx65, if_pos hc71] <;> rfl))
        have he74 : hencode_m h = (([]), (put_m h.uid 8).2) := (show hencode_m h = (([]), (put_m h.uid 8).2) from by unfold hencode_m; rw [if_neg hs9, if_neg hs14, if_neg hc19, he73] <;> rfl)
        exact ⟨rfl, .tuple #[.string (tx ([])), .int .i64 ((put_m h.uid 8).2)], res_tt rfl rfl rfl, ⟨by (rw [he74]; try rfl), hm67.below⟩⟩
      refine wp_skip ?_
      refine then_n (hK69 _ _ ?_)
      refine wp_region_lit ?_
      refine lvw 58 (.string (tx x34)) rfl rfl (run_mv rfl rfl) ?_
      simp only [nz1, nz2, nz3]
      refine lvw 59 (.string (tx ((put_m h.uid 8).1))) rfl rfl (run_mv rfl rfl) ?_
      simp only [nz1, nz2, nz3]
      refine lvw 60 (.string (tx (x34 ++ (put_m h.uid 8).1))) rfl rfl (t_cat x34 ((put_m h.uid 8).1) (by first | omega | (simp; omega) | (simp only [List.length_append, List.length_cons, List.length_nil] at *; omega)) rfl rfl rfl) ?_
      simp only [nz1, nz2, nz3]
      refine lvw 5 (.string (tx (x34 ++ (put_m h.uid 8).1))) rfl rfl (run_as rfl rfl) ?_
      simp only [nz1, nz2, nz3]
      refine wpList_nil ?_
      refine blk_n ?_
      refine then_n (hK50 _ _ ?_)
      refine wp_region_lit ?_
      refine lvw 61 (.int .i64 (((x35 + 1) : Nat) : Int)) rfl rfl (r_add x35 1 (show (x35 + 1) < 9223372036854775808 from by omega) rfl rfl rfl) ?_
      simp only [nz1, nz2, nz3]
      refine lvw 42 (.int .i64 (((x35 + 1) : Nat) : Int)) rfl rfl (run_mv rfl rfl) ?_
      simp only [nz1, nz2, nz3]
      refine wpList_nil ?_
      refine then_n (hR44 _ _ _ ⟨k37, (x34 ++ (put_m h.uid 8).1), (x35 + 1), (fun qq => List.getD [u0 0, u0 1, .int .i64 ((x35 : Nat) : Int), .string (tx ((put_m h.uid 8).1)), .int .i64 ((put_m h.uid 8).2), .bool (decide (x35 < 5)), .int .i64 ((x35 : Nat) : Int), .tuple #[.string (tx ((put_m h.uid 8).1)), .int .i64 ((put_m h.uid 8).2)], .int .i64 ((x35 : Nat) : Int), .pointer (some ⟨g25, 1, none⟩), .int .i64 (h.uid), .int .i64 ((x35 : Nat) : Int), .pointer (some ⟨0, 1, none⟩), .int .i64 8, .tuple #[.string (tx ((put_m h.uid 8).1)), .int .i64 ((put_m h.uid 8).2)], .string (tx ((put_m h.uid 8).1)), .int .i64 ((put_m h.uid 8).2), .int .i64 ((put_m h.uid 8).2), .bool (decide (¬ (put_m h.uid 8).2 = 0)), u0 19, .string (tx x34), .string (tx ((put_m h.uid 8).1)), .string (tx (x34 ++ (put_m h.uid 8).1)), .int .i64 (((x35 + 1) : Nat) : Int)] qq undef), rfl, (by first | omega | (simp; omega) | (simp at *; omega)), (hi38.trans (show hencode_m_b0 h (hencode_m_l0 h k37) x34 x35 = hencode_m_l0 h k37 ((x34 ++ (put_m h.uid 8).1), (x35 + 1)) from by unfold hencode_m_b0; rw [if_pos hc49, if_neg hx55, if_pos hx65, if_neg hc71] <;> rfl)), (by rw [List.length_append]; omega), rfl, hm67⟩ ?_)
      omega
    by_cases hx75 : x35 = 2
    · refine tk 1 47 (.pointer (some ⟨g25, 2, none⟩)) rfl rfl (fun _ hw => Sx.r_ix g25 2 (by decide) Tryd.underlying51 sz_3 rfl rfl (show (Value.int .i64 ((x35 : Nat) : Int)) = .int .i64 (((2 : Nat)) : Int) from by congr 1; omega)) (hm53.at 1 rfl) ?_
      simp only [nz1, nz2, nz3]
      refine tk 2 48 (.int .i64 (h.gid)) rfl rfl (fun _ hw => r_load hw rfl Tryd.underlying3 rfl rfl rfl) (hm53.at 1 rfl) ?_
      simp only [nz1, nz2, nz3]
      refine tk 3 49 (.int .i64 ((x35 : Nat) : Int)) rfl rfl (fun _ hw => run_mv rfl rfl) (hm53.at 1 rfl) ?_
      simp only [nz1, nz2, nz3]
      refine tk 4 50 (.pointer (some ⟨0, 2, none⟩)) rfl rfl (fun _ hw => Sx.r_ix 0 2 (by decide) Tryd.underlying51 sz_3 rfl rfl (show (Value.int .i64 ((x35 : Nat) : Int)) = .int .i64 (((2 : Nat)) : Int) from by congr 1; omega)) (hm53.at 1 rfl) ?_
      simp only [nz1, nz2, nz3]
      refine one_ready 5 (by kernel_rfl) ?_
      refine opd rfl (wanted_none rfl) (w_value 51 (.int .i64 8) rfl (r_cellw ((Laid.below hT hm53.below).wid 2 _ rfl) Tryd.underlying3 rfl rfl rfl) ⟨hm53.at 1 rfl, ?_⟩)
      simp only [nz1, nz2, nz3]
      refine one_ready 6 (by kernel_rfl) ?_
      refine opd rfl (wanted_none rfl) (m_call hm53 52 (.tuple #[.string (tx ((put_m h.gid 8).1)), .int .i64 ((put_m h.gid 8).2)]) rfl (run_put rfl rfl rfl) (put_any h.gid 8  _  (by first | omega | assumption | (simp; done) | (simp; omega) | (simp only [List.length_append, List.length_cons, List.length_nil]; omega) | (simp only [List.length_append, List.length_cons, List.length_nil] at *; omega) | decide)) (fun w76 (hm77 : Mm none (fun _ => True) w w76 [.blk g4 #[.string (tx h.name), .int .i64 (h.mode), .int .i64 (h.uid), .int .i64 (h.gid), .int .i64 (h.size), .int .i64 (h.time), .int .u8 ((h.flag.toNat : Nat) : Int), .string (tx h.link), .string (tx h.pfx)] 23, .blk g25 #[.int .i64 (h.mode), .int .i64 (h.uid), .int .i64 (h.gid), .int .i64 (h.size), .int .i64 (h.time)] 51]) => ?_))
      have hf78 : ¬ (put_m h.gid 8).2 = 0 ∨ (((put_m h.gid 8).1.length : Nat) : Int) = 8 := put_len h.gid 8
      refine ⟨hm77.at 1 rfl, ?_⟩
      simp only [nz1, nz2, nz3]
      refine tk 7 45 (.tuple #[.string (tx ((put_m h.gid 8).1)), .int .i64 ((put_m h.gid 8).2)]) rfl rfl (fun _ hw => run_mv rfl rfl) (hm77.at 1 rfl) ?_
      simp only [nz1, nz2, nz3]
      refine tk 8 53 (.string (tx ((put_m h.gid 8).1))) rfl rfl (fun _ hw => run_ex rfl rfl rfl) (hm77.at 1 rfl) ?_
      simp only [nz1, nz2, nz3]
      refine tk 9 54 (.int .i64 ((put_m h.gid 8).2)) rfl rfl (fun _ hw => run_ex rfl rfl rfl) (hm77.at 1 rfl) ?_
      simp only [nz1, nz2, nz3]
      refine one_ready 10 (by kernel_rfl) ?_
      refine opd rfl (wanted_none rfl) (w_value 7 (.string (tx ((put_m h.gid 8).1))) rfl (run_as rfl rfl) ⟨hm77.at 1 rfl, ?_⟩)
      simp only [nz1, nz2, nz3]
      refine one_ready 11 (by kernel_rfl) ?_
      refine opd rfl (wanted_none rfl) (w_value 8 (.int .i64 ((put_m h.gid 8).2)) rfl (run_as rfl rfl) ⟨hm77.at 1 rfl, ?_⟩)
      simp only [nz1, nz2, nz3]
      refine wpAnyH_done (by kernel_rfl) ?_ _
      refine then_n (hK52 _ _ ?_)
      refine wp_seq_k (fun K79 hK79 => ?_)
      refine wp_seq_k (fun K80 hK80 => ?_)
      refine wp_region_lit ?_
      refine lvw 55 (.int .i64 ((put_m h.gid 8).2)) rfl rfl (run_mv rfl rfl) ?_
      simp only [nz1, nz2, nz3]
      refine lvw 56 (.bool (decide (¬ (put_m h.gid 8).2 = 0))) rfl rfl (z_neq ((put_m h.gid 8).2) 0 rfl rfl rfl) ?_
      simp only [nz1, nz2, nz3]
      refine wpList_nil ?_
      refine then_n (hK80 _ _ ?_)
      refine cond_d (¬ (put_m h.gid 8).2 = 0) rfl (fun hc81 => ?_) (fun hc81 => ?_)
      · refine wp_seq_k (fun K82 hK82 => ?_)
        refine wp_region_lit ?_
        refine lvw 57 (.int .i64 ((put_m h.gid 8).2)) rfl rfl (run_mv rfl rfl) ?_
        simp only [nz1, nz2, nz3]
        refine lvw 2 (.string (tx ([]))) rfl rfl (run_as rfl rfl) ?_
        simp only [nz1, nz2, nz3]
        refine lvw 3 (.int .i64 ((put_m h.gid 8).2)) rfl rfl (run_as rfl rfl) ?_
        simp only [nz1, nz2, nz3]
        refine wpList_nil ?_
        refine then_n (hK82 _ _ ?_)
        refine wp_ret ?_
        refine then_r ?_
        refine blk_r ?_
        refine then_r ?_
        refine then_r ?_
        refine blk_r ?_
        refine then_r ?_
        refine then_r ?_
        have he83 : hencode_m_l0 h ((5 - 0) + 1) ((fill_m h.name 100), 0) = .inr (([]), (put_m h.gid 8).2) := (hi38.trans (show hencode_m_b0 h (hencode_m_l0 h k37) x34 x35 = .inr (([]), (put_m h.gid 8).2) from by unfold hencode_m_b0; rw [if_pos hc49, if_neg hx55, if_neg hx65, if_pos hx75, if_pos hc81] <;> rfl))
        have he84 : hencode_m h = (([]), (put_m h.gid 8).2) := (show hencode_m h = (([]), (put_m h.gid 8).2) from by unfold hencode_m; rw [if_neg hs9, if_neg hs14, if_neg hc19, he83] <;> rfl)
        exact ⟨rfl, .tuple #[.string (tx ([])), .int .i64 ((put_m h.gid 8).2)], res_tt rfl rfl rfl, ⟨by (rw [he84]; try rfl), hm77.below⟩⟩
      refine wp_skip ?_
      refine then_n (hK79 _ _ ?_)
      refine wp_region_lit ?_
      refine lvw 58 (.string (tx x34)) rfl rfl (run_mv rfl rfl) ?_
      simp only [nz1, nz2, nz3]
      refine lvw 59 (.string (tx ((put_m h.gid 8).1))) rfl rfl (run_mv rfl rfl) ?_
      simp only [nz1, nz2, nz3]
      refine lvw 60 (.string (tx (x34 ++ (put_m h.gid 8).1))) rfl rfl (t_cat x34 ((put_m h.gid 8).1) (by first | omega | (simp; omega) | (simp only [List.length_append, List.length_cons, List.length_nil] at *; omega)) rfl rfl rfl) ?_
      simp only [nz1, nz2, nz3]
      refine lvw 5 (.string (tx (x34 ++ (put_m h.gid 8).1))) rfl rfl (run_as rfl rfl) ?_
      simp only [nz1, nz2, nz3]
      refine wpList_nil ?_
      refine blk_n ?_
      refine then_n (hK50 _ _ ?_)
      refine wp_region_lit ?_
      refine lvw 61 (.int .i64 (((x35 + 1) : Nat) : Int)) rfl rfl (r_add x35 1 (show (x35 + 1) < 9223372036854775808 from by omega) rfl rfl rfl) ?_
      simp only [nz1, nz2, nz3]
      refine lvw 42 (.int .i64 (((x35 + 1) : Nat) : Int)) rfl rfl (run_mv rfl rfl) ?_
      simp only [nz1, nz2, nz3]
      refine wpList_nil ?_
      refine then_n (hR44 _ _ _ ⟨k37, (x34 ++ (put_m h.gid 8).1), (x35 + 1), (fun qq => List.getD [u0 0, u0 1, .int .i64 ((x35 : Nat) : Int), .string (tx ((put_m h.gid 8).1)), .int .i64 ((put_m h.gid 8).2), .bool (decide (x35 < 5)), .int .i64 ((x35 : Nat) : Int), .tuple #[.string (tx ((put_m h.gid 8).1)), .int .i64 ((put_m h.gid 8).2)], .int .i64 ((x35 : Nat) : Int), .pointer (some ⟨g25, 2, none⟩), .int .i64 (h.gid), .int .i64 ((x35 : Nat) : Int), .pointer (some ⟨0, 2, none⟩), .int .i64 8, .tuple #[.string (tx ((put_m h.gid 8).1)), .int .i64 ((put_m h.gid 8).2)], .string (tx ((put_m h.gid 8).1)), .int .i64 ((put_m h.gid 8).2), .int .i64 ((put_m h.gid 8).2), .bool (decide (¬ (put_m h.gid 8).2 = 0)), u0 19, .string (tx x34), .string (tx ((put_m h.gid 8).1)), .string (tx (x34 ++ (put_m h.gid 8).1)), .int .i64 (((x35 + 1) : Nat) : Int)] qq undef), rfl, (by first | omega | (simp; omega) | (simp at *; omega)), (hi38.trans (show hencode_m_b0 h (hencode_m_l0 h k37) x34 x35 = hencode_m_l0 h k37 ((x34 ++ (put_m h.gid 8).1), (x35 + 1)) from by unfold hencode_m_b0; rw [if_pos hc49, if_neg hx55, if_neg hx65, if_pos hx75, if_neg hc81] <;> rfl)), (by rw [List.length_append]; omega), rfl, hm77⟩ ?_)
      omega
    by_cases hx85 : x35 = 3
    · refine tk 1 47 (.pointer (some ⟨g25, 3, none⟩)) rfl rfl (fun _ hw => Sx.r_ix g25 3 (by decide) Tryd.underlying51 sz_3 rfl rfl (show (Value.int .i64 ((x35 : Nat) : Int)) = .int .i64 (((3 : Nat)) : Int) from by congr 1; omega)) (hm53.at 1 rfl) ?_
      simp only [nz1, nz2, nz3]
      refine tk 2 48 (.int .i64 (h.size)) rfl rfl (fun _ hw => r_load hw rfl Tryd.underlying3 rfl rfl rfl) (hm53.at 1 rfl) ?_
      simp only [nz1, nz2, nz3]
      refine tk 3 49 (.int .i64 ((x35 : Nat) : Int)) rfl rfl (fun _ hw => run_mv rfl rfl) (hm53.at 1 rfl) ?_
      simp only [nz1, nz2, nz3]
      refine tk 4 50 (.pointer (some ⟨0, 3, none⟩)) rfl rfl (fun _ hw => Sx.r_ix 0 3 (by decide) Tryd.underlying51 sz_3 rfl rfl (show (Value.int .i64 ((x35 : Nat) : Int)) = .int .i64 (((3 : Nat)) : Int) from by congr 1; omega)) (hm53.at 1 rfl) ?_
      simp only [nz1, nz2, nz3]
      refine one_ready 5 (by kernel_rfl) ?_
      refine opd rfl (wanted_none rfl) (w_value 51 (.int .i64 12) rfl (r_cellw ((Laid.below hT hm53.below).wid 3 _ rfl) Tryd.underlying3 rfl rfl rfl) ⟨hm53.at 1 rfl, ?_⟩)
      simp only [nz1, nz2, nz3]
      refine one_ready 6 (by kernel_rfl) ?_
      refine opd rfl (wanted_none rfl) (m_call hm53 52 (.tuple #[.string (tx ((put_m h.size 12).1)), .int .i64 ((put_m h.size 12).2)]) rfl (run_put rfl rfl rfl) (put_any h.size 12  _  (by first | omega | assumption | (simp; done) | (simp; omega) | (simp only [List.length_append, List.length_cons, List.length_nil]; omega) | (simp only [List.length_append, List.length_cons, List.length_nil] at *; omega) | decide)) (fun w86 (hm87 : Mm none (fun _ => True) w w86 [.blk g4 #[.string (tx h.name), .int .i64 (h.mode), .int .i64 (h.uid), .int .i64 (h.gid), .int .i64 (h.size), .int .i64 (h.time), .int .u8 ((h.flag.toNat : Nat) : Int), .string (tx h.link), .string (tx h.pfx)] 23, .blk g25 #[.int .i64 (h.mode), .int .i64 (h.uid), .int .i64 (h.gid), .int .i64 (h.size), .int .i64 (h.time)] 51]) => ?_))
      have hf88 : ¬ (put_m h.size 12).2 = 0 ∨ (((put_m h.size 12).1.length : Nat) : Int) = 12 := put_len h.size 12
      refine ⟨hm87.at 1 rfl, ?_⟩
      simp only [nz1, nz2, nz3]
      refine tk 7 45 (.tuple #[.string (tx ((put_m h.size 12).1)), .int .i64 ((put_m h.size 12).2)]) rfl rfl (fun _ hw => run_mv rfl rfl) (hm87.at 1 rfl) ?_
      simp only [nz1, nz2, nz3]
      refine tk 8 53 (.string (tx ((put_m h.size 12).1))) rfl rfl (fun _ hw => run_ex rfl rfl rfl) (hm87.at 1 rfl) ?_
      simp only [nz1, nz2, nz3]
      refine tk 9 54 (.int .i64 ((put_m h.size 12).2)) rfl rfl (fun _ hw => run_ex rfl rfl rfl) (hm87.at 1 rfl) ?_
      simp only [nz1, nz2, nz3]
      refine one_ready 10 (by kernel_rfl) ?_
      refine opd rfl (wanted_none rfl) (w_value 7 (.string (tx ((put_m h.size 12).1))) rfl (run_as rfl rfl) ⟨hm87.at 1 rfl, ?_⟩)
      simp only [nz1, nz2, nz3]
      refine one_ready 11 (by kernel_rfl) ?_
      refine opd rfl (wanted_none rfl) (w_value 8 (.int .i64 ((put_m h.size 12).2)) rfl (run_as rfl rfl) ⟨hm87.at 1 rfl, ?_⟩)
      simp only [nz1, nz2, nz3]
      refine wpAnyH_done (by kernel_rfl) ?_ _
      refine then_n (hK52 _ _ ?_)
      refine wp_seq_k (fun K89 hK89 => ?_)
      refine wp_seq_k (fun K90 hK90 => ?_)
      refine wp_region_lit ?_
      refine lvw 55 (.int .i64 ((put_m h.size 12).2)) rfl rfl (run_mv rfl rfl) ?_
      simp only [nz1, nz2, nz3]
      refine lvw 56 (.bool (decide (¬ (put_m h.size 12).2 = 0))) rfl rfl (z_neq ((put_m h.size 12).2) 0 rfl rfl rfl) ?_
      simp only [nz1, nz2, nz3]
      refine wpList_nil ?_
      refine then_n (hK90 _ _ ?_)
      refine cond_d (¬ (put_m h.size 12).2 = 0) rfl (fun hc91 => ?_) (fun hc91 => ?_)
      · refine wp_seq_k (fun K92 hK92 => ?_)
        refine wp_region_lit ?_
        refine lvw 57 (.int .i64 ((put_m h.size 12).2)) rfl rfl (run_mv rfl rfl) ?_
        simp only [nz1, nz2, nz3]
        refine lvw 2 (.string (tx ([]))) rfl rfl (run_as rfl rfl) ?_
        simp only [nz1, nz2, nz3]
        refine lvw 3 (.int .i64 ((put_m h.size 12).2)) rfl rfl (run_as rfl rfl) ?_
        simp only [nz1, nz2, nz3]
        refine wpList_nil ?_
        refine then_n (hK92 _ _ ?_)
        refine wp_ret ?_
        refine then_r ?_
        refine blk_r ?_
        refine then_r ?_
        refine then_r ?_
        refine blk_r ?_
        refine then_r ?_
        refine then_r ?_
        have he93 : hencode_m_l0 h ((5 - 0) + 1) ((fill_m h.name 100), 0) = .inr (([]), (put_m h.size 12).2) := (hi38.trans (show hencode_m_b0 h (hencode_m_l0 h k37) x34 x35 = .inr (([]), (put_m h.size 12).2) from by unfold hencode_m_b0; rw [if_pos hc49, if_neg hx55, if_neg hx65, if_neg hx75, if_pos hx85, if_pos hc91] <;> rfl))
        have he94 : hencode_m h = (([]), (put_m h.size 12).2) := (show hencode_m h = (([]), (put_m h.size 12).2) from by unfold hencode_m; rw [if_neg hs9, if_neg hs14, if_neg hc19, he93] <;> rfl)
        exact ⟨rfl, .tuple #[.string (tx ([])), .int .i64 ((put_m h.size 12).2)], res_tt rfl rfl rfl, ⟨by (rw [he94]; try rfl), hm87.below⟩⟩
      refine wp_skip ?_
      refine then_n (hK89 _ _ ?_)
      refine wp_region_lit ?_
      refine lvw 58 (.string (tx x34)) rfl rfl (run_mv rfl rfl) ?_
      simp only [nz1, nz2, nz3]
      refine lvw 59 (.string (tx ((put_m h.size 12).1))) rfl rfl (run_mv rfl rfl) ?_
      simp only [nz1, nz2, nz3]
      refine lvw 60 (.string (tx (x34 ++ (put_m h.size 12).1))) rfl rfl (t_cat x34 ((put_m h.size 12).1) (by first | omega | (simp; omega) | (simp only [List.length_append, List.length_cons, List.length_nil] at *; omega)) rfl rfl rfl) ?_
      simp only [nz1, nz2, nz3]
      refine lvw 5 (.string (tx (x34 ++ (put_m h.size 12).1))) rfl rfl (run_as rfl rfl) ?_
      simp only [nz1, nz2, nz3]
      refine wpList_nil ?_
      refine blk_n ?_
      refine then_n (hK50 _ _ ?_)
      refine wp_region_lit ?_
      refine lvw 61 (.int .i64 (((x35 + 1) : Nat) : Int)) rfl rfl (r_add x35 1 (show (x35 + 1) < 9223372036854775808 from by omega) rfl rfl rfl) ?_
      simp only [nz1, nz2, nz3]
      refine lvw 42 (.int .i64 (((x35 + 1) : Nat) : Int)) rfl rfl (run_mv rfl rfl) ?_
      simp only [nz1, nz2, nz3]
      refine wpList_nil ?_
      refine then_n (hR44 _ _ _ ⟨k37, (x34 ++ (put_m h.size 12).1), (x35 + 1), (fun qq => List.getD [u0 0, u0 1, .int .i64 ((x35 : Nat) : Int), .string (tx ((put_m h.size 12).1)), .int .i64 ((put_m h.size 12).2), .bool (decide (x35 < 5)), .int .i64 ((x35 : Nat) : Int), .tuple #[.string (tx ((put_m h.size 12).1)), .int .i64 ((put_m h.size 12).2)], .int .i64 ((x35 : Nat) : Int), .pointer (some ⟨g25, 3, none⟩), .int .i64 (h.size), .int .i64 ((x35 : Nat) : Int), .pointer (some ⟨0, 3, none⟩), .int .i64 12, .tuple #[.string (tx ((put_m h.size 12).1)), .int .i64 ((put_m h.size 12).2)], .string (tx ((put_m h.size 12).1)), .int .i64 ((put_m h.size 12).2), .int .i64 ((put_m h.size 12).2), .bool (decide (¬ (put_m h.size 12).2 = 0)), u0 19, .string (tx x34), .string (tx ((put_m h.size 12).1)), .string (tx (x34 ++ (put_m h.size 12).1)), .int .i64 (((x35 + 1) : Nat) : Int)] qq undef), rfl, (by first | omega | (simp; omega) | (simp at *; omega)), (hi38.trans (show hencode_m_b0 h (hencode_m_l0 h k37) x34 x35 = hencode_m_l0 h k37 ((x34 ++ (put_m h.size 12).1), (x35 + 1)) from by unfold hencode_m_b0; rw [if_pos hc49, if_neg hx55, if_neg hx65, if_neg hx75, if_pos hx85, if_neg hc91] <;> rfl)), (by rw [List.length_append]; omega), rfl, hm87⟩ ?_)
      omega
    have hx95 : x35 = 4 := by omega
    refine tk 1 47 (.pointer (some ⟨g25, 4, none⟩)) rfl rfl (fun _ hw => Sx.r_ix g25 4 (by decide) Tryd.underlying51 sz_3 rfl rfl (show (Value.int .i64 ((x35 : Nat) : Int)) = .int .i64 (((4 : Nat)) : Int) from by congr 1; omega)) (hm53.at 1 rfl) ?_
    simp only [nz1, nz2, nz3]
    refine tk 2 48 (.int .i64 (h.time)) rfl rfl (fun _ hw => r_load hw rfl Tryd.underlying3 rfl rfl rfl) (hm53.at 1 rfl) ?_
    simp only [nz1, nz2, nz3]
    refine tk 3 49 (.int .i64 ((x35 : Nat) : Int)) rfl rfl (fun _ hw => run_mv rfl rfl) (hm53.at 1 rfl) ?_
    simp only [nz1, nz2, nz3]
    refine tk 4 50 (.pointer (some ⟨0, 4, none⟩)) rfl rfl (fun _ hw => Sx.r_ix 0 4 (by decide) Tryd.underlying51 sz_3 rfl rfl (show (Value.int .i64 ((x35 : Nat) : Int)) = .int .i64 (((4 : Nat)) : Int) from by congr 1; omega)) (hm53.at 1 rfl) ?_
    simp only [nz1, nz2, nz3]
    refine one_ready 5 (by kernel_rfl) ?_
    refine opd rfl (wanted_none rfl) (w_value 51 (.int .i64 12) rfl (r_cellw ((Laid.below hT hm53.below).wid 4 _ rfl) Tryd.underlying3 rfl rfl rfl) ⟨hm53.at 1 rfl, ?_⟩)
    simp only [nz1, nz2, nz3]
    refine one_ready 6 (by kernel_rfl) ?_
    refine opd rfl (wanted_none rfl) (m_call hm53 52 (.tuple #[.string (tx ((put_m h.time 12).1)), .int .i64 ((put_m h.time 12).2)]) rfl (run_put rfl rfl rfl) (put_any h.time 12  _  (by first | omega | assumption | (simp; done) | (simp; omega) | (simp only [List.length_append, List.length_cons, List.length_nil]; omega) | (simp only [List.length_append, List.length_cons, List.length_nil] at *; omega) | decide)) (fun w96 (hm97 : Mm none (fun _ => True) w w96 [.blk g4 #[.string (tx h.name), .int .i64 (h.mode), .int .i64 (h.uid), .int .i64 (h.gid), .int .i64 (h.size), .int .i64 (h.time), .int .u8 ((h.flag.toNat : Nat) : Int), .string (tx h.link), .string (tx h.pfx)] 23, .blk g25 #[.int .i64 (h.mode), .int .i64 (h.uid), .int .i64 (h.gid), .int .i64 (h.size), .int .i64 (h.time)] 51]) => ?_))
    have hf98 : ¬ (put_m h.time 12).2 = 0 ∨ (((put_m h.time 12).1.length : Nat) : Int) = 12 := put_len h.time 12
    refine ⟨hm97.at 1 rfl, ?_⟩
    simp only [nz1, nz2, nz3]
    refine tk 7 45 (.tuple #[.string (tx ((put_m h.time 12).1)), .int .i64 ((put_m h.time 12).2)]) rfl rfl (fun _ hw => run_mv rfl rfl) (hm97.at 1 rfl) ?_
    simp only [nz1, nz2, nz3]
    refine tk 8 53 (.string (tx ((put_m h.time 12).1))) rfl rfl (fun _ hw => run_ex rfl rfl rfl) (hm97.at 1 rfl) ?_
    simp only [nz1, nz2, nz3]
    refine tk 9 54 (.int .i64 ((put_m h.time 12).2)) rfl rfl (fun _ hw => run_ex rfl rfl rfl) (hm97.at 1 rfl) ?_
    simp only [nz1, nz2, nz3]
    refine one_ready 10 (by kernel_rfl) ?_
    refine opd rfl (wanted_none rfl) (w_value 7 (.string (tx ((put_m h.time 12).1))) rfl (run_as rfl rfl) ⟨hm97.at 1 rfl, ?_⟩)
    simp only [nz1, nz2, nz3]
    refine one_ready 11 (by kernel_rfl) ?_
    refine opd rfl (wanted_none rfl) (w_value 8 (.int .i64 ((put_m h.time 12).2)) rfl (run_as rfl rfl) ⟨hm97.at 1 rfl, ?_⟩)
    simp only [nz1, nz2, nz3]
    refine wpAnyH_done (by kernel_rfl) ?_ _
    refine then_n (hK52 _ _ ?_)
    refine wp_seq_k (fun K99 hK99 => ?_)
    refine wp_seq_k (fun K100 hK100 => ?_)
    refine wp_region_lit ?_
    refine lvw 55 (.int .i64 ((put_m h.time 12).2)) rfl rfl (run_mv rfl rfl) ?_
    simp only [nz1, nz2, nz3]
    refine lvw 56 (.bool (decide (¬ (put_m h.time 12).2 = 0))) rfl rfl (z_neq ((put_m h.time 12).2) 0 rfl rfl rfl) ?_
    simp only [nz1, nz2, nz3]
    refine wpList_nil ?_
    refine then_n (hK100 _ _ ?_)
    refine cond_d (¬ (put_m h.time 12).2 = 0) rfl (fun hc101 => ?_) (fun hc101 => ?_)
    · refine wp_seq_k (fun K102 hK102 => ?_)
      refine wp_region_lit ?_
      refine lvw 57 (.int .i64 ((put_m h.time 12).2)) rfl rfl (run_mv rfl rfl) ?_
      simp only [nz1, nz2, nz3]
      refine lvw 2 (.string (tx ([]))) rfl rfl (run_as rfl rfl) ?_
      simp only [nz1, nz2, nz3]
      refine lvw 3 (.int .i64 ((put_m h.time 12).2)) rfl rfl (run_as rfl rfl) ?_
      simp only [nz1, nz2, nz3]
      refine wpList_nil ?_
      refine then_n (hK102 _ _ ?_)
      refine wp_ret ?_
      refine then_r ?_
      refine blk_r ?_
      refine then_r ?_
      refine then_r ?_
      refine blk_r ?_
      refine then_r ?_
      refine then_r ?_
      have he103 : hencode_m_l0 h ((5 - 0) + 1) ((fill_m h.name 100), 0) = .inr (([]), (put_m h.time 12).2) := (hi38.trans (show hencode_m_b0 h (hencode_m_l0 h k37) x34 x35 = .inr (([]), (put_m h.time 12).2) from by unfold hencode_m_b0; rw [if_pos hc49, if_neg hx55, if_neg hx65, if_neg hx75, if_neg hx85, if_pos hc101] <;> rfl))
      have he104 : hencode_m h = (([]), (put_m h.time 12).2) := (show hencode_m h = (([]), (put_m h.time 12).2) from by unfold hencode_m; rw [if_neg hs9, if_neg hs14, if_neg hc19, he103] <;> rfl)
      exact ⟨rfl, .tuple #[.string (tx ([])), .int .i64 ((put_m h.time 12).2)], res_tt rfl rfl rfl, ⟨by (rw [he104]; try rfl), hm97.below⟩⟩
    refine wp_skip ?_
    refine then_n (hK99 _ _ ?_)
    refine wp_region_lit ?_
    refine lvw 58 (.string (tx x34)) rfl rfl (run_mv rfl rfl) ?_
    simp only [nz1, nz2, nz3]
    refine lvw 59 (.string (tx ((put_m h.time 12).1))) rfl rfl (run_mv rfl rfl) ?_
    simp only [nz1, nz2, nz3]
    refine lvw 60 (.string (tx (x34 ++ (put_m h.time 12).1))) rfl rfl (t_cat x34 ((put_m h.time 12).1) (by first | omega | (simp; omega) | (simp only [List.length_append, List.length_cons, List.length_nil] at *; omega)) rfl rfl rfl) ?_
    simp only [nz1, nz2, nz3]
    refine lvw 5 (.string (tx (x34 ++ (put_m h.time 12).1))) rfl rfl (run_as rfl rfl) ?_
    simp only [nz1, nz2, nz3]
    refine wpList_nil ?_
    refine blk_n ?_
    refine then_n (hK50 _ _ ?_)
    refine wp_region_lit ?_
    refine lvw 61 (.int .i64 (((x35 + 1) : Nat) : Int)) rfl rfl (r_add x35 1 (show (x35 + 1) < 9223372036854775808 from by omega) rfl rfl rfl) ?_
    simp only [nz1, nz2, nz3]
    refine lvw 42 (.int .i64 (((x35 + 1) : Nat) : Int)) rfl rfl (run_mv rfl rfl) ?_
    simp only [nz1, nz2, nz3]
    refine wpList_nil ?_
    refine then_n (hR44 _ _ _ ⟨k37, (x34 ++ (put_m h.time 12).1), (x35 + 1), (fun qq => List.getD [u0 0, u0 1, .int .i64 ((x35 : Nat) : Int), .string (tx ((put_m h.time 12).1)), .int .i64 ((put_m h.time 12).2), .bool (decide (x35 < 5)), .int .i64 ((x35 : Nat) : Int), .tuple #[.string (tx ((put_m h.time 12).1)), .int .i64 ((put_m h.time 12).2)], .int .i64 ((x35 : Nat) : Int), .pointer (some ⟨g25, 4, none⟩), .int .i64 (h.time), .int .i64 ((x35 : Nat) : Int), .pointer (some ⟨0, 4, none⟩), .int .i64 12, .tuple #[.string (tx ((put_m h.time 12).1)), .int .i64 ((put_m h.time 12).2)], .string (tx ((put_m h.time 12).1)), .int .i64 ((put_m h.time 12).2), .int .i64 ((put_m h.time 12).2), .bool (decide (¬ (put_m h.time 12).2 = 0)), u0 19, .string (tx x34), .string (tx ((put_m h.time 12).1)), .string (tx (x34 ++ (put_m h.time 12).1)), .int .i64 (((x35 + 1) : Nat) : Int)] qq undef), rfl, (by first | omega | (simp; omega) | (simp at *; omega)), (hi38.trans (show hencode_m_b0 h (hencode_m_l0 h k37) x34 x35 = hencode_m_l0 h k37 ((x34 ++ (put_m h.time 12).1), (x35 + 1)) from by unfold hencode_m_b0; rw [if_pos hc49, if_neg hx55, if_neg hx65, if_neg hx75, if_neg hx85, if_neg hc101] <;> rfl)), (by rw [List.length_append]; omega), rfl, hm97⟩ ?_)
    omega
  rintro _ w105 ⟨y39, y40, yu0, hx41, hel, rfl, hm106⟩
  have hq107 : hencode_m h = hencode_m_k0 h y39 y40 := (show hencode_m h = hencode_m_k0 h y39 y40 from by unfold hencode_m; rw [if_neg hs9, if_neg hs14, if_neg hc19, hx41] <;> rfl)
  refine then_n (hK32 _ _ ?_)
  refine wp_seq_k (fun K108 hK108 => ?_)
  refine wp_mono (Q := fun e a' w' => e = Exit.normal ∧ ∃ (g113 : Nat), a' = ⟨#[.agg #[.string (tx h.name), .int .i64 (h.mode), .int .i64 (h.uid), .int .i64 (h.gid), .int .i64 (h.size), .int .i64 (h.time), .int .u8 ((h.flag.toNat : Nat) : Int), .string (tx h.link), .string (tx h.pfx)], .pointer (some ⟨g4, 0, none⟩), yu0 0, yu0 1, .pointer (some ⟨g25, 0, none⟩), .string (tx y39), yu0 2, yu0 3, yu0 4, .string (tx (((((([h.flag] : List UInt8) ++ (fill_m h.link 100)) ++ [117, 115, 116, 97, 114, 0, 48, 48]) ++ (fill_m ([]) 80)) ++ (fill_m h.pfx 155)) ++ (fill_m ([]) 12))), undef, undef, .pointer (some ⟨g4, 0, none⟩), .string (tx h.name), .bool (decide ((((h.name.length : Nat) : Int) ≤ 100 ∧ ib_m h.name 0 < 0))), .bool false, .bool false, .pointer (some ⟨g4, 7, none⟩), .string (tx h.link), .bool (decide ((((h.link.length : Nat) : Int) ≤ 100 ∧ ib_m h.link 0 < 0))), .bool false, .bool false, .bool false, .pointer (some ⟨g4, 8, none⟩), .string (tx h.pfx), .bool (decide ((((h.pfx.length : Nat) : Int) ≤ 155 ∧ ib_m h.pfx 0 < 0))), .bool (decide (¬ ((((h.pfx.length : Nat) : Int) ≤ 155 ∧ ib_m h.pfx 0 < 0)))), .bool (decide (¬ ((((h.pfx.length : Nat) : Int) ≤ 155 ∧ ib_m h.pfx 0 < 0)))), .pointer (some ⟨g4, 1, none⟩), .int .i64 (h.mode), .pointer (some ⟨g4, 2, none⟩), .int .i64 (h.uid), .pointer (some ⟨g4, 3, none⟩), .int .i64 (h.gid), .pointer (some ⟨g4, 4, none⟩), .int .i64 (h.size), .pointer (some ⟨g4, 5, none⟩), .int .i64 (h.time), .agg #[.int .i64 (h.mode), .int .i64 (h.uid), .int .i64 (h.gid), .int .i64 (h.size), .int .i64 (h.time)], .pointer (some ⟨g4, 0, none⟩), .string (tx h.name), .string (tx (fill_m h.name 100)), .int .i64 ((y40 : Nat) : Int), yu0 5, yu0 6, yu0 7, yu0 8, yu0 9, yu0 10, yu0 11, yu0 12, yu0 13, yu0 14, yu0 15, yu0 16, yu0 17, yu0 18, yu0 19, yu0 20, yu0 21, yu0 22, yu0 23, .pointer (some ⟨g4, 6, none⟩), .int .u8 ((h.flag.toNat : Nat) : Int), .slice (some ⟨g113, 0, none⟩) 1 1, .string (tx ([h.flag] : List UInt8)), .pointer (some ⟨g4, 7, none⟩), .string (tx h.link), .string (tx (fill_m h.link 100)), .string (tx (([h.flag] : List UInt8) ++ (fill_m h.link 100))), .string (tx ((([h.flag] : List UInt8) ++ (fill_m h.link 100)) ++ [117, 115, 116, 97, 114, 0, 48, 48])), .string (tx (fill_m ([]) 80)), .string (tx (((([h.flag] : List UInt8) ++ (fill_m h.link 100)) ++ [117, 115, 116, 97, 114, 0, 48, 48]) ++ (fill_m ([]) 80))), .pointer (some ⟨g4, 8, none⟩), .string (tx h.pfx), .string (tx (fill_m h.pfx 155)), .string (tx ((((([h.flag] : List UInt8) ++ (fill_m h.link 100)) ++ [117, 115, 116, 97, 114, 0, 48, 48]) ++ (fill_m ([]) 80)) ++ (fill_m h.pfx 155))), .string (tx (fill_m ([]) 12)), .string (tx (((((([h.flag] : List UInt8) ++ (fill_m h.link 100)) ++ [117, 115, 116, 97, 114, 0, 48, 48]) ++ (fill_m ([]) 80)) ++ (fill_m h.pfx 155)) ++ (fill_m ([]) 12))), undef, undef, undef, undef, undef, undef, undef, undef, undef, undef, undef, undef, undef, undef, undef, undef], []⟩ ∧ Mm none (fun _ => True) w w' [.blk g4 #[.string (tx h.name), .int .i64 (h.mode), .int .i64 (h.uid), .int .i64 (h.gid), .int .i64 (h.size), .int .i64 (h.time), .int .u8 ((h.flag.toNat : Nat) : Int), .string (tx h.link), .string (tx h.pfx)] 23, .blk g25 #[.int .i64 (h.mode), .int .i64 (h.uid), .int .i64 (h.gid), .int .i64 (h.size), .int .i64 (h.time)] 51, .blk g113 #[.int .u8 ((h.flag.toNat : Nat) : Int)] 5]) ?_ ?_
  · have hm109 := hm106.drew
    refine wp_region_held_drew (S := fun w' => Mem.Blk w' g4 (#[.string (tx h.name), .int .i64 (h.mode), .int .i64 (h.uid), .int .i64 (h.gid), .int .i64 (h.size), .int .i64 (h.time), .int .u8 ((h.flag.toNat : Nat) : Int), .string (tx h.link), .string (tx h.pfx)]) 23) (by kernel_rfl) (hm109.at 0 rfl) (fun _ => ?_)
    generalize w105.drew = w110 at *
    refine Sym.take_at 0 62 (.pointer (some ⟨g4, 6, none⟩)) rfl rfl (by kernel_rfl) (by kernel_rfl) (by kernel_rfl) (fun _ _ _ h => nomatch h.1) rfl (fun _ hw => r_fa23_6 g4 0 rfl rfl) (hm109.at 0 rfl) ?_
    simp only [nz1, nz2, nz3]
    refine Sym.take_at 1 63 (.int .u8 ((h.flag.toNat : Nat) : Int)) rfl rfl (by kernel_rfl) (by kernel_rfl) (by kernel_rfl) (fun _ _ _ h => nomatch h.1) rfl (fun _ hw => r_load hw rfl Tryd.underlying5 rfl rfl rfl) (hm109.at 0 rfl) ?_
    simp only [nz1, nz2, nz3]
    refine Sym.take_at 4 66 (.pointer (some ⟨g4, 7, none⟩)) rfl rfl (by kernel_rfl) (by kernel_rfl) (by kernel_rfl) (fun _ _ _ h => nomatch h.1) rfl (fun _ hw => r_fa23_7 g4 0 rfl rfl) (hm109.at 0 rfl) ?_
    simp only [nz1, nz2, nz3]
    refine Sym.take_at 5 67 (.string (tx h.link)) rfl rfl (by kernel_rfl) (by kernel_rfl) (by kernel_rfl) (fun _ _ _ h => nomatch h.1) rfl (fun _ hw => r_load hw rfl Tryd.underlying9 rfl rfl rfl) (hm109.at 0 rfl) ?_
    simp only [nz1, nz2, nz3]
    refine Sym.take_at 11 73 (.pointer (some ⟨g4, 8, none⟩)) rfl rfl (by kernel_rfl) (by kernel_rfl) (by kernel_rfl) (fun _ _ _ h => nomatch h.1) rfl (fun _ hw => r_fa23_8 g4 0 rfl rfl) (hm109.at 0 rfl) ?_
    simp only [nz1, nz2, nz3]
    refine Sym.take_at 12 74 (.string (tx h.pfx)) rfl rfl (by kernel_rfl) (by kernel_rfl) (by kernel_rfl) (fun _ _ _ h => nomatch h.1) rfl (fun _ hw => r_load hw rfl Tryd.underlying9 rfl rfl rfl) (hm109.at 0 rfl) ?_
    simp only [nz1, nz2, nz3]
    refine two_ready 2 6 (by kernel_rfl) ?_ ?_
    · refine opd rfl rfl (m_make (c := #[.int .u8 ((h.flag.toNat : Nat) : Int)]) (T := 5) (fun g => .slice (some ⟨g, 0, none⟩) 1 1) hm109 64 rfl (by unfold execOp; go_simp; try rfl) (fun g113 w111 hm112 => ?_))
      refine ⟨hm112.at 0 rfl, ?_⟩
      simp only [nz1, nz2, nz3]
      refine two_ready 3 6 (by kernel_rfl) ?_ ?_
      · refine opd rfl rfl (w_value 65 (.string (tx ([h.flag] : List UInt8))) rfl (r_stringR ([h.flag]) (by have h := Rs.blk (enc := eB) (l := ([h.flag] : List UInt8)) (hm112.at 2 rfl) rfl rfl eB_len (Nat.le_refl _); unfold Rs at h; rw [eB_map] at h; exact h) Tryd.underlying34 Tryd.underlying5 Tryd.underlying9 rfl rfl) ⟨hm112.at 0 rfl, ?_⟩)
        simp only [nz1, nz2, nz3]
        refine one_ready 6 (by kernel_rfl) ?_
        refine opd rfl rfl (m_call hm112 68 (.string (tx (fill_m h.link 100))) rfl (run_fill rfl rfl rfl) (fill_any h.link 100  _  (by first | omega | assumption | (simp; done) | (simp; omega) | (simp only [List.length_append, List.length_cons, List.length_nil]; omega) | (simp only [List.length_append, List.length_cons, List.length_nil] at *; omega) | decide) (by first | omega | assumption | (simp; done) | (simp; omega) | (simp only [List.length_append, List.length_cons, List.length_nil]; omega) | (simp only [List.length_append, List.length_cons, List.length_nil] at *; omega) | decide)) (fun w114 hm115 => ?_))
        have hf116 : (((fill_m h.link 100).length : Nat) : Int) = 100 := fill_len h.link 100 (by first | omega | (simp; done) | (simp; omega))
        refine ⟨hm115.at 0 rfl, ?_⟩
        simp only [nz1, nz2, nz3]
        refine Sym.take_at 7 69 (.string (tx (([h.flag] : List UInt8) ++ (fill_m h.link 100)))) rfl rfl (by kernel_rfl) (by kernel_rfl) (by kernel_rfl) (fun _ _ _ h => nomatch h.1) rfl (fun _ hw => t_cat ([h.flag] : List UInt8) (fill_m h.link 100) (by first | omega | (simp; omega) | (simp only [List.length_append, List.length_cons, List.length_nil] at *; omega)) rfl rfl rfl) (hm115.at 0 rfl) ?_
        simp only [nz1, nz2, nz3]
        refine Sym.take_at 8 70 (.string (tx ((([h.flag] : List UInt8) ++ (fill_m h.link 100)) ++ [117, 115, 116, 97, 114, 0, 48, 48]))) rfl rfl (by kernel_rfl) (by kernel_rfl) (by kernel_rfl) (fun _ _ _ h => nomatch h.1) rfl (fun _ hw => t_cat (([h.flag] : List UInt8) ++ (fill_m h.link 100)) ([117, 115, 116, 97, 114, 0, 48, 48]) (by first | omega | (simp; omega) | (simp only [List.length_append, List.length_cons, List.length_nil] at *; omega)) rfl rfl rfl) (hm115.at 0 rfl) ?_
        simp only [nz1, nz2, nz3]
        refine one_ready 9 (by kernel_rfl) ?_
        refine opd rfl rfl (m_call hm115 71 (.string (tx (fill_m ([]) 80))) rfl (run_fill rfl rfl rfl) (fill_any ([]) 80  _  (by first | omega | assumption | (simp; done) | (simp; omega) | (simp only [List.length_append, List.length_cons, List.length_nil]; omega) | (simp only [List.length_append, List.length_cons, List.length_nil] at *; omega) | decide) (by first | omega | assumption | (simp; done) | (simp; omega) | (simp only [List.length_append, List.length_cons, List.length_nil]; omega) | (simp only [List.length_append, List.length_cons, List.length_nil] at *; omega) | decide)) (fun w117 hm118 => ?_))
        have hf119 : (((fill_m ([]) 80).length : Nat) : Int) = 80 := fill_len ([]) 80 (by first | omega | (simp; done) | (simp; omega))
        refine ⟨hm118.at 0 rfl, ?_⟩
        simp only [nz1, nz2, nz3]
        refine Sym.take_at 10 72 (.string (tx (((([h.flag] : List UInt8) ++ (fill_m h.link 100)) ++ [117, 115, 116, 97, 114, 0, 48, 48]) ++ (fill_m ([]) 80)))) rfl rfl (by kernel_rfl) (by kernel_rfl) (by kernel_rfl) (fun _ _ _ h => nomatch h.1) rfl (fun _ hw => t_cat ((([h.flag] : List UInt8) ++ (fill_m h.link 100)) ++ [117, 115, 116, 97, 114, 0, 48, 48]) (fill_m ([]) 80) (by first | omega | (simp; omega) | (simp only [List.length_append, List.length_cons, List.length_nil] at *; omega)) rfl rfl rfl) (hm118.at 0 rfl) ?_
        simp only [nz1, nz2, nz3]
        refine one_ready 13 (by kernel_rfl) ?_
        refine opd rfl rfl (m_call hm118 75 (.string (tx (fill_m h.pfx 155))) rfl (run_fill rfl rfl rfl) (fill_any h.pfx 155  _  (by first | omega | assumption | (simp; done) | (simp; omega) | (simp only [List.length_append, List.length_cons, List.length_nil]; omega) | (simp only [List.length_append, List.length_cons, List.length_nil] at *; omega) | decide) (by first | omega | assumption | (simp; done) | (simp; omega) | (simp only [List.length_append, List.length_cons, List.length_nil]; omega) | (simp only [List.length_append, List.length_cons, List.length_nil] at *; omega) | decide)) (fun w120 hm121 => ?_))
        have hf122 : (((fill_m h.pfx 155).length : Nat) : Int) = 155 := fill_len h.pfx 155 (by first | omega | (simp; done) | (simp; omega))
        refine ⟨hm121.at 0 rfl, ?_⟩
        simp only [nz1, nz2, nz3]
        refine Sym.take_at 14 76 (.string (tx ((((([h.flag] : List UInt8) ++ (fill_m h.link 100)) ++ [117, 115, 116, 97, 114, 0, 48, 48]) ++ (fill_m ([]) 80)) ++ (fill_m h.pfx 155)))) rfl rfl (by kernel_rfl) (by kernel_rfl) (by kernel_rfl) (fun _ _ _ h => nomatch h.1) rfl (fun _ hw => t_cat (((([h.flag] : List UInt8) ++ (fill_m h.link 100)) ++ [117, 115, 116, 97, 114, 0, 48, 48]) ++ (fill_m ([]) 80)) (fill_m h.pfx 155) (by first | omega | (simp; omega) | (simp only [List.length_append, List.length_cons, List.length_nil] at *; omega)) rfl rfl rfl) (hm121.at 0 rfl) ?_
        simp only [nz1, nz2, nz3]
        refine one_ready 15 (by kernel_rfl) ?_
        refine opd rfl rfl (m_call hm121 77 (.string (tx (fill_m ([]) 12))) rfl (run_fill rfl rfl rfl) (fill_any ([]) 12  _  (by first | omega | assumption | (simp; done) | (simp; omega) | (simp only [List.length_append, List.length_cons, List.length_nil]; omega) | (simp only [List.length_append, List.length_cons, List.length_nil] at *; omega) | decide) (by first | omega | assumption | (simp; done) | (simp; omega) | (simp only [List.length_append, List.length_cons, List.length_nil]; omega) | (simp only [List.length_append, List.length_cons, List.length_nil] at *; omega) | decide)) (fun w123 hm124 => ?_))
        have hf125 : (((fill_m ([]) 12).length : Nat) : Int) = 12 := fill_len ([]) 12 (by first | omega | (simp; done) | (simp; omega))
        refine ⟨hm124.at 0 rfl, ?_⟩
        simp only [nz1, nz2, nz3]
        refine Sym.take_at 16 78 (.string (tx (((((([h.flag] : List UInt8) ++ (fill_m h.link 100)) ++ [117, 115, 116, 97, 114, 0, 48, 48]) ++ (fill_m ([]) 80)) ++ (fill_m h.pfx 155)) ++ (fill_m ([]) 12)))) rfl rfl (by kernel_rfl) (by kernel_rfl) (by kernel_rfl) (fun _ _ _ h => nomatch h.1) rfl (fun _ hw => t_cat ((((([h.flag] : List UInt8) ++ (fill_m h.link 100)) ++ [117, 115, 116, 97, 114, 0, 48, 48]) ++ (fill_m ([]) 80)) ++ (fill_m h.pfx 155)) (fill_m ([]) 12) (by first | omega | (simp; omega) | (simp only [List.length_append, List.length_cons, List.length_nil] at *; omega)) rfl rfl rfl) (hm124.at 0 rfl) ?_
        simp only [nz1, nz2, nz3]
        refine one_ready 17 (by kernel_rfl) ?_
        refine opd rfl rfl (w_value 9 (.string (tx (((((([h.flag] : List UInt8) ++ (fill_m h.link 100)) ++ [117, 115, 116, 97, 114, 0, 48, 48]) ++ (fill_m ([]) 80)) ++ (fill_m h.pfx 155)) ++ (fill_m ([]) 12)))) rfl (run_as rfl rfl) ⟨hm124.at 0 rfl, ?_⟩)
        simp only [nz1, nz2, nz3]
        refine wpAnyH_done (by kernel_rfl) ?_ _
        exact ⟨rfl, g113, rfl, hm124⟩
      · refine opd rfl rfl (m_call hm112 68 (.string (tx (fill_m h.link 100))) rfl (run_fill rfl rfl rfl) (fill_any h.link 100  _  (by first | omega | assumption | (simp; done) | (simp; omega) | (simp only [List.length_append, List.length_cons, List.length_nil]; omega) | (simp only [List.length_append, List.length_cons, List.length_nil] at *; omega) | decide) (by first | omega | assumption | (simp; done) | (simp; omega) | (simp only [List.length_append, List.length_cons, List.length_nil]; omega) | (simp only [List.length_append, List.length_cons, List.length_nil] at *; omega) | decide)) (fun w126 hm127 => ?_))
        have hf128 : (((fill_m h.link 100).length : Nat) : Int) = 100 := fill_len h.link 100 (by first | omega | (simp; done) | (simp; omega))
        refine ⟨hm127.at 0 rfl, ?_⟩
        simp only [nz1, nz2, nz3]
        refine two_ready 3 9 (by kernel_rfl) ?_ ?_
        · refine opd rfl rfl (w_value 65 (.string (tx ([h.flag] : List UInt8))) rfl (r_stringR ([h.flag]) (by have h := Rs.blk (enc := eB) (l := ([h.flag] : List UInt8)) (hm127.at 2 rfl) rfl rfl eB_len (Nat.le_refl _); unfold Rs at h; rw [eB_map] at h; exact h) Tryd.underlying34 Tryd.underlying5 Tryd.underlying9 rfl rfl) ⟨hm127.at 0 rfl, ?_⟩)
          simp only [nz1, nz2, nz3]
          refine Sym.take_at 7 69 (.string (tx (([h.flag] : List UInt8) ++ (fill_m h.link 100)))) rfl rfl (by kernel_rfl) (by kernel_rfl) (by kernel_rfl) (fun _ _ _ h => nomatch h.1) rfl (fun _ hw => t_cat ([h.flag] : List UInt8) (fill_m h.link 100) (by first | omega | (simp; omega) | (simp only [List.length_append, List.length_cons, List.length_nil] at *; omega)) rfl rfl rfl) (hm127.at 0 rfl) ?_
          simp only [nz1, nz2, nz3]
          refine Sym.take_at 8 70 (.string (tx ((([h.flag] : List UInt8) ++ (fill_m h.link 100)) ++ [117, 115, 116, 97, 114, 0, 48, 48]))) rfl rfl (by kernel_rfl) (by kernel_rfl) (by kernel_rfl) (fun _ _ _ h => nomatch h.1) rfl (fun _ hw => t_cat (([h.flag] : List UInt8) ++ (fill_m h.link 100)) ([117, 115, 116, 97, 114, 0, 48, 48]) (by first | omega | (simp; omega) | (simp only [List.length_append, List.length_cons, List.length_nil] at *; omega)) rfl rfl rfl) (hm127.at 0 rfl) ?_
          simp only [nz1, nz2, nz3]
          refine one_ready 9 (by kernel_rfl) ?_
          refine opd rfl rfl (m_call hm127 71 (.string (tx (fill_m ([]) 80))) rfl (run_fill rfl rfl rfl) (fill_any ([]) 80  _  (by first | omega | assumption | (simp; done) | (simp; omega) | (simp only [List.length_append, List.length_cons, List.length_nil]; omega) | (simp only [List.length_append, List.length_cons, List.length_nil] at *; omega) | decide) (by first | omega | assumption | (simp; done) | (simp; omega) | (simp only [List.length_append, List.length_cons, List.length_nil]; omega) | (simp only [List.length_append, List.length_cons, List.length_nil] at *; omega) | decide)) (fun w129 hm130 => ?_))
          have hf131 : (((fill_m ([]) 80).length : Nat) : Int) = 80 := fill_len ([]) 80 (by first | omega | (simp; done) | (simp; omega))
          refine ⟨hm130.at 0 rfl, ?_⟩
          simp only [nz1, nz2, nz3]
          refine Sym.take_at 10 72 (.string (tx (((([h.flag] : List UInt8) ++ (fill_m h.link 100)) ++ [117, 115, 116, 97, 114, 0, 48, 48]) ++ (fill_m ([]) 80)))) rfl rfl (by kernel_rfl) (by kernel_rfl) (by kernel_rfl) (fun _ _ _ h => nomatch h.1) rfl (fun _ hw => t_cat ((([h.flag] : List UInt8) ++ (fill_m h.link 100)) ++ [117, 115, 116, 97, 114, 0, 48, 48]) (fill_m ([]) 80) (by first | omega | (simp; omega) | (simp only [List.length_append, List.length_cons, List.length_nil] at *; omega)) rfl rfl rfl) (hm130.at 0 rfl) ?_
          simp only [nz1, nz2, nz3]
          refine one_ready 13 (by kernel_rfl) ?_
          refine opd rfl rfl (m_call hm130 75 (.string (tx (fill_m h.pfx 155))) rfl (run_fill rfl rfl rfl) (fill_any h.pfx 155  _  (by first | omega | assumption | (simp; done) | (simp; omega) | (simp only [List.length_append, List.length_cons, List.length_nil]; omega) | (simp only [List.length_append, List.length_cons, List.length_nil] at *; omega) | decide) (by first | omega | assumption | (simp; done) | (simp; omega) | (simp only [List.length_append, List.length_cons, List.length_nil]; omega) | (simp only [List.length_append, List.length_cons, List.length_nil] at *; omega) | decide)) (fun w132 hm133 => ?_))
          have hf134 : (((fill_m h.pfx 155).length : Nat) : Int) = 155 := fill_len h.pfx 155 (by first | omega | (simp; done) | (simp; omega))
          refine ⟨hm133.at 0 rfl, ?_⟩
          simp only [nz1, nz2, nz3]
          refine Sym.take_at 14 76 (.string (tx ((((([h.flag] : List UInt8) ++ (fill_m h.link 100)) ++ [117, 115, 116, 97, 114, 0, 48, 48]) ++ (fill_m ([]) 80)) ++ (fill_m h.pfx 155)))) rfl rfl (by kernel_rfl) (by kernel_rfl) (by kernel_rfl) (fun _ _ _ h => nomatch h.1) rfl (fun _ hw => t_cat (((([h.flag] : List UInt8) ++ (fill_m h.link 100)) ++ [117, 115, 116, 97, 114, 0, 48, 48]) ++ (fill_m ([]) 80)) (fill_m h.pfx 155) (by first | omega | (simp; omega) | (simp only [List.length_append, List.length_cons, List.length_nil] at *; omega)) rfl rfl rfl) (hm133.at 0 rfl) ?_
          simp only [nz1, nz2, nz3]
          refine one_ready 15 (by kernel_rfl) ?_
          refine opd rfl rfl (m_call hm133 77 (.string (tx (fill_m ([]) 12))) rfl (run_fill rfl rfl rfl) (fill_any ([]) 12  _  (by first | omega | assumption | (simp; done) | (simp; omega) | (simp only [List.length_append, List.length_cons, List.length_nil]; omega) | (simp only [List.length_append, List.length_cons, List.length_nil] at *; omega) | decide) (by first | omega | assumption | (simp; done) | (simp; omega) | (simp only [List.length_append, List.length_cons, List.length_nil]; omega) | (simp only [List.length_append, List.length_cons, List.length_nil] at *; omega) | decide)) (fun w135 hm136 => ?_))
          have hf137 : (((fill_m ([]) 12).length : Nat) : Int) = 12 := fill_len ([]) 12 (by first | omega | (simp; done) | (simp; omega))
          refine ⟨hm136.at 0 rfl, ?_⟩
          simp only [nz1, nz2, nz3]
          refine Sym.take_at 16 78 (.string (tx (((((([h.flag] : List UInt8) ++ (fill_m h.link 100)) ++ [117, 115, 116, 97, 114, 0, 48, 48]) ++ (fill_m ([]) 80)) ++ (fill_m h.pfx 155)) ++ (fill_m ([]) 12)))) rfl rfl (by kernel_rfl) (by kernel_rfl) (by kernel_rfl) (fun _ _ _ h => nomatch h.1) rfl (fun _ hw => t_cat ((((([h.flag] : List UInt8) ++ (fill_m h.link 100)) ++ [117, 115, 116, 97, 114, 0, 48, 48]) ++ (fill_m ([]) 80)) ++ (fill_m h.pfx 155)) (fill_m ([]) 12) (by first | omega | (simp; omega) | (simp only [List.length_append, List.length_cons, List.length_nil] at *; omega)) rfl rfl rfl) (hm136.at 0 rfl) ?_
          simp only [nz1, nz2, nz3]
          refine one_ready 17 (by kernel_rfl) ?_
          refine opd rfl rfl (w_value 9 (.string (tx (((((([h.flag] : List UInt8) ++ (fill_m h.link 100)) ++ [117, 115, 116, 97, 114, 0, 48, 48]) ++ (fill_m ([]) 80)) ++ (fill_m h.pfx 155)) ++ (fill_m ([]) 12)))) rfl (run_as rfl rfl) ⟨hm136.at 0 rfl, ?_⟩)
          simp only [nz1, nz2, nz3]
          refine wpAnyH_done (by kernel_rfl) ?_ _
          exact ⟨rfl, g113, rfl, hm136⟩
        · refine opd rfl rfl (m_call hm127 71 (.string (tx (fill_m ([]) 80))) rfl (run_fill rfl rfl rfl) (fill_any ([]) 80  _  (by first | omega | assumption | (simp; done) | (simp; omega) | (simp only [List.length_append, List.length_cons, List.length_nil]; omega) | (simp only [List.length_append, List.length_cons, List.length_nil] at *; omega) | decide) (by first | omega | assumption | (simp; done) | (simp; omega) | (simp only [List.length_append, List.length_cons, List.length_nil]; omega) | (simp only [List.length_append, List.length_cons, List.length_nil] at *; omega) | decide)) (fun w138 hm139 => ?_))
          have hf140 : (((fill_m ([]) 80).length : Nat) : Int) = 80 := fill_len ([]) 80 (by first | omega | (simp; done) | (simp; omega))
          refine ⟨hm139.at 0 rfl, ?_⟩
          simp only [nz1, nz2, nz3]
          refine two_ready 3 13 (by kernel_rfl) ?_ ?_
          · refine opd rfl rfl (w_value 65 (.string (tx ([h.flag] : List UInt8))) rfl (r_stringR ([h.flag]) (by have h := Rs.blk (enc := eB) (l := ([h.flag] : List UInt8)) (hm139.at 2 rfl) rfl rfl eB_len (Nat.le_refl _); unfold Rs at h; rw [eB_map] at h; exact h) Tryd.underlying34 Tryd.underlying5 Tryd.underlying9 rfl rfl) ⟨hm139.at 0 rfl, ?_⟩)
            simp only [nz1, nz2, nz3]
            refine Sym.take_at 7 69 (.string (tx (([h.flag] : List UInt8) ++ (fill_m h.link 100)))) rfl rfl (by kernel_rfl) (by kernel_rfl) (by kernel_rfl) (fun _ _ _ h => nomatch h.1) rfl (fun _ hw => t_cat ([h.flag] : List UInt8) (fill_m h.link 100) (by first | omega | (simp; omega) | (simp only [List.length_append, List.length_cons, List.length_nil] at *; omega)) rfl rfl rfl) (hm139.at 0 rfl) ?_
            simp only [nz1, nz2, nz3]
            refine Sym.take_at 8 70 (.string (tx ((([h.flag] : List UInt8) ++ (fill_m h.link 100)) ++ [117, 115, 116, 97, 114, 0, 48, 48]))) rfl rfl (by kernel_rfl) (by kernel_rfl) (by kernel_rfl) (fun _ _ _ h => nomatch h.1) rfl (fun _ hw => t_cat (([h.flag] : List UInt8) ++ (fill_m h.link 100)) ([117, 115, 116, 97, 114, 0, 48, 48]) (by first | omega | (simp; omega) | (simp only [List.length_append, List.length_cons, List.length_nil] at *; omega)) rfl rfl rfl) (hm139.at 0 rfl) ?_
            simp only [nz1, nz2, nz3]
            refine Sym.take_at 10 72 (.string (tx (((([h.flag] : List UInt8) ++ (fill_m h.link 100)) ++ [117, 115, 116, 97, 114, 0, 48, 48]) ++ (fill_m ([]) 80)))) rfl rfl (by kernel_rfl) (by kernel_rfl) (by kernel_rfl) (fun _ _ _ h => nomatch h.1) rfl (fun _ hw => t_cat ((([h.flag] : List UInt8) ++ (fill_m h.link 100)) ++ [117, 115, 116, 97, 114, 0, 48, 48]) (fill_m ([]) 80) (by first | omega | (simp; omega) | (simp only [List.length_append, List.length_cons, List.length_nil] at *; omega)) rfl rfl rfl) (hm139.at 0 rfl) ?_
            simp only [nz1, nz2, nz3]
            refine one_ready 13 (by kernel_rfl) ?_
            refine opd rfl rfl (m_call hm139 75 (.string (tx (fill_m h.pfx 155))) rfl (run_fill rfl rfl rfl) (fill_any h.pfx 155  _  (by first | omega | assumption | (simp; done) | (simp; omega) | (simp only [List.length_append, List.length_cons, List.length_nil]; omega) | (simp only [List.length_append, List.length_cons, List.length_nil] at *; omega) | decide) (by first | omega | assumption | (simp; done) | (simp; omega) | (simp only [List.length_append, List.length_cons, List.length_nil]; omega) | (simp only [List.length_append, List.length_cons, List.length_nil] at *; omega) | decide)) (fun w141 hm142 => ?_))
            have hf143 : (((fill_m h.pfx 155).length : Nat) : Int) = 155 := fill_len h.pfx 155 (by first | omega | (simp; done) | (simp; omega))
            refine ⟨hm142.at 0 rfl, ?_⟩
            simp only [nz1, nz2, nz3]
            refine Sym.take_at 14 76 (.string (tx ((((([h.flag] : List UInt8) ++ (fill_m h.link 100)) ++ [117, 115, 116, 97, 114, 0, 48, 48]) ++ (fill_m ([]) 80)) ++ (fill_m h.pfx 155)))) rfl rfl (by kernel_rfl) (by kernel_rfl) (by kernel_rfl) (fun _ _ _ h => nomatch h.1) rfl (fun _ hw => t_cat (((([h.flag] : List UInt8) ++ (fill_m h.link 100)) ++ [117, 115, 116, 97, 114, 0, 48, 48]) ++ (fill_m ([]) 80)) (fill_m h.pfx 155) (by first | omega | (simp; omega) | (simp only [List.length_append, List.length_cons, List.length_nil] at *; omega)) rfl rfl rfl) (hm142.at 0 rfl) ?_
            simp only [nz1, nz2, nz3]
            refine one_ready 15 (by kernel_rfl) ?_
            refine opd rfl rfl (m_call hm142 77 (.string (tx (fill_m ([]) 12))) rfl (run_fill rfl rfl rfl) (fill_any ([]) 12  _  (by first | omega | assumption | (simp; done) | (simp; omega) | (simp only [List.length_append, List.length_cons, List.length_nil]; omega) | (simp only [List.length_append, List.length_cons, List.length_nil] at *; omega) | decide) (by first | omega | assumption | (simp; done) | (simp; omega) | (simp only [List.length_append, List.length_cons, List.length_nil]; omega) | (simp only [List.length_append, List.length_cons, List.length_nil] at *; omega) | decide)) (fun w144 hm145 => ?_))
            have hf146 : (((fill_m ([]) 12).length : Nat) : Int) = 12 := fill_len ([]) 12 (by first | omega | (simp; done) | (simp; omega))
            refine ⟨hm145.at 0 rfl, ?_⟩
            simp only [nz1, nz2, nz3]
            refine Sym.take_at 16 78 (.string (tx (((((([h.flag] : List UInt8) ++ (fill_m h.link 100)) ++ [117, 115, 116, 97, 114, 0, 48, 48]) ++ (fill_m ([]) 80)) ++ (fill_m h.pfx 155)) ++ (fill_m ([]) 12)))) rfl rfl (by kernel_rfl) (by kernel_rfl) (by kernel_rfl) (fun _ _ _ h => nomatch h.1) rfl (fun _ hw => t_cat ((((([h.flag] : List UInt8) ++ (fill_m h.link 100)) ++ [117, 115, 116, 97, 114, 0, 48, 48]) ++ (fill_m ([]) 80)) ++ (fill_m h.pfx 155)) (fill_m ([]) 12) (by first | omega | (simp; omega) | (simp only [List.length_append, List.length_cons, List.length_nil] at *; omega)) rfl rfl rfl) (hm145.at 0 rfl) ?_
            simp only [nz1, nz2, nz3]
            refine one_ready 17 (by kernel_rfl) ?_
            refine opd rfl rfl (w_value 9 (.string (tx (((((([h.flag] : List UInt8) ++ (fill_m h.link 100)) ++ [117, 115, 116, 97, 114, 0, 48, 48]) ++ (fill_m ([]) 80)) ++ (fill_m h.pfx 155)) ++ (fill_m ([]) 12)))) rfl (run_as rfl rfl) ⟨hm145.at 0 rfl, ?_⟩)
            simp only [nz1, nz2, nz3]
            refine wpAnyH_done (by kernel_rfl) ?_ _
            exact ⟨rfl, g113, rfl, hm145⟩
          · refine opd rfl rfl (m_call hm139 75 (.string (tx (fill_m h.pfx 155))) rfl (run_fill rfl rfl rfl) (fill_any h.pfx 155  _  (by first | omega | assumption | (simp; done) | (simp; omega) | (simp only [List.length_append, List.length_cons, List.length_nil]; omega) | (simp only [List.length_append, List.length_cons, List.length_nil] at *; omega) | decide) (by first | omega | assumption | (simp; done) | (simp; omega) | (simp only [List.length_append, List.length_cons, List.length_nil]; omega) | (simp only [List.length_append, List.length_cons, List.length_nil] at *; omega) | decide)) (fun w147 hm148 => ?_))
            have hf149 : (((fill_m h.pfx 155).length : Nat) : Int) = 155 := fill_len h.pfx 155 (by first | omega | (simp; done) | (simp; omega))
            refine ⟨hm148.at 0 rfl, ?_⟩
            simp only [nz1, nz2, nz3]
            refine two_ready 3 15 (by kernel_rfl) ?_ ?_
            · refine opd rfl rfl (w_value 65 (.string (tx ([h.flag] : List UInt8))) rfl (r_stringR ([h.flag]) (by have h := Rs.blk (enc := eB) (l := ([h.flag] : List UInt8)) (hm148.at 2 rfl) rfl rfl eB_len (Nat.le_refl _); unfold Rs at h; rw [eB_map] at h; exact h) Tryd.underlying34 Tryd.underlying5 Tryd.underlying9 rfl rfl) ⟨hm148.at 0 rfl, ?_⟩)
              simp only [nz1, nz2, nz3]
              refine Sym.take_at 7 69 (.string (tx (([h.flag] : List UInt8) ++ (fill_m h.link 100)))) rfl rfl (by kernel_rfl) (by kernel_rfl) (by kernel_rfl) (fun _ _ _ h => nomatch h.1) rfl (fun _ hw => t_cat ([h.flag] : List UInt8) (fill_m h.link 100) (by first | omega | (simp; omega) | (simp only [List.length_append, List.length_cons, List.length_nil] at *; omega)) rfl rfl rfl) (hm148.at 0 rfl) ?_
              simp only [nz1, nz2, nz3]
              refine Sym.take_at 8 70 (.string (tx ((([h.flag] : List UInt8) ++ (fill_m h.link 100)) ++ [117, 115, 116, 97, 114, 0, 48, 48]))) rfl rfl (by kernel_rfl) (by kernel_rfl) (by kernel_rfl) (fun _ _ _ h => nomatch h.1) rfl (fun _ hw => t_cat (([h.flag] : List UInt8) ++ (fill_m h.link 100)) ([117, 115, 116, 97, 114, 0, 48, 48]) (by first | omega | (simp; omega) | (simp only [List.length_append, List.length_cons, List.length_nil] at *; omega)) rfl rfl rfl) (hm148.at 0 rfl) ?_
              simp only [nz1, nz2, nz3]
              refine Sym.take_at 10 72 (.string (tx (((([h.flag] : List UInt8) ++ (fill_m h.link 100)) ++ [117, 115, 116, 97, 114, 0, 48, 48]) ++ (fill_m ([]) 80)))) rfl rfl (by kernel_rfl) (by kernel_rfl) (by kernel_rfl) (fun _ _ _ h => nomatch h.1) rfl (fun _ hw => t_cat ((([h.flag] : List UInt8) ++ (fill_m h.link 100)) ++ [117, 115, 116, 97, 114, 0, 48, 48]) (fill_m ([]) 80) (by first | omega | (simp; omega) | (simp only [List.length_append, List.length_cons, List.length_nil] at *; omega)) rfl rfl rfl) (hm148.at 0 rfl) ?_
              simp only [nz1, nz2, nz3]
              refine Sym.take_at 14 76 (.string (tx ((((([h.flag] : List UInt8) ++ (fill_m h.link 100)) ++ [117, 115, 116, 97, 114, 0, 48, 48]) ++ (fill_m ([]) 80)) ++ (fill_m h.pfx 155)))) rfl rfl (by kernel_rfl) (by kernel_rfl) (by kernel_rfl) (fun _ _ _ h => nomatch h.1) rfl (fun _ hw => t_cat (((([h.flag] : List UInt8) ++ (fill_m h.link 100)) ++ [117, 115, 116, 97, 114, 0, 48, 48]) ++ (fill_m ([]) 80)) (fill_m h.pfx 155) (by first | omega | (simp; omega) | (simp only [List.length_append, List.length_cons, List.length_nil] at *; omega)) rfl rfl rfl) (hm148.at 0 rfl) ?_
              simp only [nz1, nz2, nz3]
              refine one_ready 15 (by kernel_rfl) ?_
              refine opd rfl rfl (m_call hm148 77 (.string (tx (fill_m ([]) 12))) rfl (run_fill rfl rfl rfl) (fill_any ([]) 12  _  (by first | omega | assumption | (simp; done) | (simp; omega) | (simp only [List.length_append, List.length_cons, List.length_nil]; omega) | (simp only [List.length_append, List.length_cons, List.length_nil] at *; omega) | decide) (by first | omega | assumption | (simp; done) | (simp; omega) | (simp only [List.length_append, List.length_cons, List.length_nil]; omega) | (simp only [List.length_append, List.length_cons, List.length_nil] at *; omega) | decide)) (fun w150 hm151 => ?_))
              have hf152 : (((fill_m ([]) 12).length : Nat) : Int) = 12 := fill_len ([]) 12 (by first | omega | (simp; done) | (simp; omega))
              refine ⟨hm151.at 0 rfl, ?_⟩
              simp only [nz1, nz2, nz3]
              refine Sym.take_at 16 78 (.string (tx (((((([h.flag] : List UInt8) ++ (fill_m h.link 100)) ++ [117, 115, 116, 97, 114, 0, 48, 48]) ++ (fill_m ([]) 80)) ++ (fill_m h.pfx 155)) ++ (fill_m ([]) 12)))) rfl rfl (by kernel_rfl) (by kernel_rfl) (by kernel_rfl) (fun _ _ _ h => nomatch h.1) rfl (fun _ hw => t_cat ((((([h.flag] : List UInt8) ++ (fill_m h.link 100)) ++ [117, 115, 116, 97, 114, 0, 48, 48]) ++ (fill_m ([]) 80)) ++ (fill_m h.pfx 155)) (fill_m ([]) 12) (by first | omega | (simp; omega) | (simp only [List.length_append, List.length_cons, List.length_nil] at *; omega)) rfl rfl rfl) (hm151.at 0 rfl) ?_
              simp only [nz1, nz2, nz3]
              refine one_ready 17 (by kernel_rfl) ?_
              refine opd rfl rfl (w_value 9 (.string (tx (((((([h.flag] : List UInt8) ++ (fill_m h.link 100)) ++ [117, 115, 116, 97, 114, 0, 48, 48]) ++ (fill_m ([]) 80)) ++ (fill_m h.pfx 155)) ++ (fill_m ([]) 12)))) rfl (run_as rfl rfl) ⟨hm151.at 0 rfl, ?_⟩)
              simp only [nz1, nz2, nz3]
              refine wpAnyH_done (by kernel_rfl) ?_ _
              exact ⟨rfl, g113, rfl, hm151⟩
            · refine opd rfl rfl (m_call hm148 77 (.string (tx (fill_m ([]) 12))) rfl (run_fill rfl rfl rfl) (fill_any ([]) 12  _  (by first | omega | assumption | (simp; done) | (simp; omega) | (simp only [List.length_append, List.length_cons, List.length_nil]; omega) | (simp only [List.length_append, List.length_cons, List.length_nil] at *; omega) | decide) (by first | omega | assumption | (simp; done) | (simp; omega) | (simp only [List.length_append, List.length_cons, List.length_nil]; omega) | (simp only [List.length_append, List.length_cons, List.length_nil] at *; omega) | decide)) (fun w153 hm154 => ?_))
              have hf155 : (((fill_m ([]) 12).length : Nat) : Int) = 12 := fill_len ([]) 12 (by first | omega | (simp; done) | (simp; omega))
              refine ⟨hm154.at 0 rfl, ?_⟩
              simp only [nz1, nz2, nz3]
              refine one_ready 3 (by kernel_rfl) ?_
              refine opd rfl rfl (w_value 65 (.string (tx ([h.flag] : List UInt8))) rfl (r_stringR ([h.flag]) (by have h := Rs.blk (enc := eB) (l := ([h.flag] : List UInt8)) (hm154.at 2 rfl) rfl rfl eB_len (Nat.le_refl _); unfold Rs at h; rw [eB_map] at h; exact h) Tryd.underlying34 Tryd.underlying5 Tryd.underlying9 rfl rfl) ⟨hm154.at 0 rfl, ?_⟩)
              simp only [nz1, nz2, nz3]
              refine Sym.take_at 7 69 (.string (tx (([h.flag] : List UInt8) ++ (fill_m h.link 100)))) rfl rfl (by kernel_rfl) (by kernel_rfl) (by kernel_rfl) (fun _ _ _ h => nomatch h.1) rfl (fun _ hw => t_cat ([h.flag] : List UInt8) (fill_m h.link 100) (by first | omega | (simp; omega) | (simp only [List.length_append, List.length_cons, List.length_nil] at *; omega)) rfl rfl rfl) (hm154.at 0 rfl) ?_
              simp only [nz1, nz2, nz3]
              refine Sym.take_at 8 70 (.string (tx ((([h.flag] : List UInt8) ++ (fill_m h.link 100)) ++ [117, 115, 116, 97, 114, 0, 48, 48]))) rfl rfl (by kernel_rfl) (by kernel_rfl) (by kernel_rfl) (fun _ _ _ h => nomatch h.1) rfl (fun _ hw => t_cat (([h.flag] : List UInt8) ++ (fill_m h.link 100)) ([117, 115, 116, 97, 114, 0, 48, 48]) (by first | omega | (simp; omega) | (simp only [List.length_append, List.length_cons, List.length_nil] at *; omega)) rfl rfl rfl) (hm154.at 0 rfl) ?_
              simp only [nz1, nz2, nz3]
              refine Sym.take_at 10 72 (.string (tx (((([h.flag] : List UInt8) ++ (fill_m h.link 100)) ++ [117, 115, 116, 97, 114, 0, 48, 48]) ++ (fill_m ([]) 80)))) rfl rfl (by kernel_rfl) (by kernel_rfl) (by kernel_rfl) (fun _ _ _ h => nomatch h.1) rfl (fun _ hw => t_cat ((([h.flag] : List UInt8) ++ (fill_m h.link 100)) ++ [117, 115, 116, 97, 114, 0, 48, 48]) (fill_m ([]) 80) (by first | omega | (simp; omega) | (simp only [List.length_append, List.length_cons, List.length_nil] at *; omega)) rfl rfl rfl) (hm154.at 0 rfl) ?_
              simp only [nz1, nz2, nz3]
              refine Sym.take_at 14 76 (.string (tx ((((([h.flag] : List UInt8) ++ (fill_m h.link 100)) ++ [117, 115, 116, 97, 114, 0, 48, 48]) ++ (fill_m ([]) 80)) ++ (fill_m h.pfx 155)))) rfl rfl (by kernel_rfl) (by kernel_rfl) (by kernel_rfl) (fun _ _ _ h => nomatch h.1) rfl (fun _ hw => t_cat (((([h.flag] : List UInt8) ++ (fill_m h.link 100)) ++ [117, 115, 116, 97, 114, 0, 48, 48]) ++ (fill_m ([]) 80)) (fill_m h.pfx 155) (by first | omega | (simp; omega) | (simp only [List.length_append, List.length_cons, List.length_nil] at *; omega)) rfl rfl rfl) (hm154.at 0 rfl) ?_
              simp only [nz1, nz2, nz3]
              refine Sym.take_at 16 78 (.string (tx (((((([h.flag] : List UInt8) ++ (fill_m h.link 100)) ++ [117, 115, 116, 97, 114, 0, 48, 48]) ++ (fill_m ([]) 80)) ++ (fill_m h.pfx 155)) ++ (fill_m ([]) 12)))) rfl rfl (by kernel_rfl) (by kernel_rfl) (by kernel_rfl) (fun _ _ _ h => nomatch h.1) rfl (fun _ hw => t_cat ((((([h.flag] : List UInt8) ++ (fill_m h.link 100)) ++ [117, 115, 116, 97, 114, 0, 48, 48]) ++ (fill_m ([]) 80)) ++ (fill_m h.pfx 155)) (fill_m ([]) 12) (by first | omega | (simp; omega) | (simp only [List.length_append, List.length_cons, List.length_nil] at *; omega)) rfl rfl rfl) (hm154.at 0 rfl) ?_
              simp only [nz1, nz2, nz3]
              refine one_ready 17 (by kernel_rfl) ?_
              refine opd rfl rfl (w_value 9 (.string (tx (((((([h.flag] : List UInt8) ++ (fill_m h.link 100)) ++ [117, 115, 116, 97, 114, 0, 48, 48]) ++ (fill_m ([]) 80)) ++ (fill_m h.pfx 155)) ++ (fill_m ([]) 12)))) rfl (run_as rfl rfl) ⟨hm154.at 0 rfl, ?_⟩)
              simp only [nz1, nz2, nz3]
              refine wpAnyH_done (by kernel_rfl) ?_ _
              exact ⟨rfl, g113, rfl, hm154⟩
    · refine opd rfl rfl (m_call hm109 68 (.string (tx (fill_m h.link 100))) rfl (run_fill rfl rfl rfl) (fill_any h.link 100  _  (by first | omega | assumption | (simp; done) | (simp; omega) | (simp only [List.length_append, List.length_cons, List.length_nil]; omega) | (simp only [List.length_append, List.length_cons, List.length_nil] at *; omega) | decide) (by first | omega | assumption | (simp; done) | (simp; omega) | (simp only [List.length_append, List.length_cons, List.length_nil]; omega) | (simp only [List.length_append, List.length_cons, List.length_nil] at *; omega) | decide)) (fun w156 hm157 => ?_))
      have hf158 : (((fill_m h.link 100).length : Nat) : Int) = 100 := fill_len h.link 100 (by first | omega | (simp; done) | (simp; omega))
      refine ⟨hm157.at 0 rfl, ?_⟩
      simp only [nz1, nz2, nz3]
      refine two_ready 2 9 (by kernel_rfl) ?_ ?_
      · refine opd rfl rfl (m_make (c := #[.int .u8 ((h.flag.toNat : Nat) : Int)]) (T := 5) (fun g => .slice (some ⟨g, 0, none⟩) 1 1) hm157 64 rfl (by unfold execOp; go_simp; try rfl) (fun g161 w159 hm160 => ?_))
        refine ⟨hm160.at 0 rfl, ?_⟩
        simp only [nz1, nz2, nz3]
        refine two_ready 3 9 (by kernel_rfl) ?_ ?_
        · refine opd rfl rfl (w_value 65 (.string (tx ([h.flag] : List UInt8))) rfl (r_stringR ([h.flag]) (by have h := Rs.blk (enc := eB) (l := ([h.flag] : List UInt8)) (hm160.at 2 rfl) rfl rfl eB_len (Nat.le_refl _); unfold Rs at h; rw [eB_map] at h; exact h) Tryd.underlying34 Tryd.underlying5 Tryd.underlying9 rfl rfl) ⟨hm160.at 0 rfl, ?_⟩)
          simp only [nz1, nz2, nz3]
          refine Sym.take_at 7 69 (.string (tx (([h.flag] : List UInt8) ++ (fill_m h.link 100)))) rfl rfl (by kernel_rfl) (by kernel_rfl) (by kernel_rfl) (fun _ _ _ h => nomatch h.1) rfl (fun _ hw => t_cat ([h.flag] : List UInt8) (fill_m h.link 100) (by first | omega | (simp; omega) | (simp only [List.length_append, List.length_cons, List.length_nil] at *; omega)) rfl rfl rfl) (hm160.at 0 rfl) ?_
          simp only [nz1, nz2, nz3]
          refine Sym.take_at 8 70 (.string (tx ((([h.flag] : List UInt8) ++ (fill_m h.link 100)) ++ [117, 115, 116, 97, 114, 0, 48, 48]))) rfl rfl (by kernel_rfl) (by kernel_rfl) (by kernel_rfl) (fun _ _ _ h => nomatch h.1) rfl (fun _ hw => t_cat (([h.flag] : List UInt8) ++ (fill_m h.link 100)) ([117, 115, 116, 97, 114, 0, 48, 48]) (by first | omega | (simp; omega) | (simp only [List.length_append, List.length_cons, List.length_nil] at *; omega)) rfl rfl rfl) (hm160.at 0 rfl) ?_
          simp only [nz1, nz2, nz3]
          refine one_ready 9 (by kernel_rfl) ?_
          refine opd rfl rfl (m_call hm160 71 (.string (tx (fill_m ([]) 80))) rfl (run_fill rfl rfl rfl) (fill_any ([]) 80  _  (by first | omega | assumption | (simp; done) | (simp; omega) | (simp only [List.length_append, List.length_cons, List.length_nil]; omega) | (simp only [List.length_append, List.length_cons, List.length_nil] at *; omega) | decide) (by first | omega | assumption | (simp; done) | (simp; omega) | (simp only [List.length_append, List.length_cons, List.length_nil]; omega) | (simp only [List.length_append, List.length_cons, List.length_nil] at *; omega) | decide)) (fun w162 hm163 => ?_))
          have hf164 : (((fill_m ([]) 80).length : Nat) : Int) = 80 := fill_len ([]) 80 (by first | omega | (simp; done) | (simp; omega))
          refine ⟨hm163.at 0 rfl, ?_⟩
          simp only [nz1, nz2, nz3]
          refine Sym.take_at 10 72 (.string (tx (((([h.flag] : List UInt8) ++ (fill_m h.link 100)) ++ [117, 115, 116, 97, 114, 0, 48, 48]) ++ (fill_m ([]) 80)))) rfl rfl (by kernel_rfl) (by kernel_rfl) (by kernel_rfl) (fun _ _ _ h => nomatch h.1) rfl (fun _ hw => t_cat ((([h.flag] : List UInt8) ++ (fill_m h.link 100)) ++ [117, 115, 116, 97, 114, 0, 48, 48]) (fill_m ([]) 80) (by first | omega | (simp; omega) | (simp only [List.length_append, List.length_cons, List.length_nil] at *; omega)) rfl rfl rfl) (hm163.at 0 rfl) ?_
          simp only [nz1, nz2, nz3]
          refine one_ready 13 (by kernel_rfl) ?_
          refine opd rfl rfl (m_call hm163 75 (.string (tx (fill_m h.pfx 155))) rfl (run_fill rfl rfl rfl) (fill_any h.pfx 155  _  (by first | omega | assumption | (simp; done) | (simp; omega) | (simp only [List.length_append, List.length_cons, List.length_nil]; omega) | (simp only [List.length_append, List.length_cons, List.length_nil] at *; omega) | decide) (by first | omega | assumption | (simp; done) | (simp; omega) | (simp only [List.length_append, List.length_cons, List.length_nil]; omega) | (simp only [List.length_append, List.length_cons, List.length_nil] at *; omega) | decide)) (fun w165 hm166 => ?_))
          have hf167 : (((fill_m h.pfx 155).length : Nat) : Int) = 155 := fill_len h.pfx 155 (by first | omega | (simp; done) | (simp; omega))
          refine ⟨hm166.at 0 rfl, ?_⟩
          simp only [nz1, nz2, nz3]
          refine Sym.take_at 14 76 (.string (tx ((((([h.flag] : List UInt8) ++ (fill_m h.link 100)) ++ [117, 115, 116, 97, 114, 0, 48, 48]) ++ (fill_m ([]) 80)) ++ (fill_m h.pfx 155)))) rfl rfl (by kernel_rfl) (by kernel_rfl) (by kernel_rfl) (fun _ _ _ h => nomatch h.1) rfl (fun _ hw => t_cat (((([h.flag] : List UInt8) ++ (fill_m h.link 100)) ++ [117, 115, 116, 97, 114, 0, 48, 48]) ++ (fill_m ([]) 80)) (fill_m h.pfx 155) (by first | omega | (simp; omega) | (simp only [List.length_append, List.length_cons, List.length_nil] at *; omega)) rfl rfl rfl) (hm166.at 0 rfl) ?_
          simp only [nz1, nz2, nz3]
          refine one_ready 15 (by kernel_rfl) ?_
          refine opd rfl rfl (m_call hm166 77 (.string (tx (fill_m ([]) 12))) rfl (run_fill rfl rfl rfl) (fill_any ([]) 12  _  (by first | omega | assumption | (simp; done) | (simp; omega) | (simp only [List.length_append, List.length_cons, List.length_nil]; omega) | (simp only [List.length_append, List.length_cons, List.length_nil] at *; omega) | decide) (by first | omega | assumption | (simp; done) | (simp; omega) | (simp only [List.length_append, List.length_cons, List.length_nil]; omega) | (simp only [List.length_append, List.length_cons, List.length_nil] at *; omega) | decide)) (fun w168 hm169 => ?_))
          have hf170 : (((fill_m ([]) 12).length : Nat) : Int) = 12 := fill_len ([]) 12 (by first | omega | (simp; done) | (simp; omega))
          refine ⟨hm169.at 0 rfl, ?_⟩
          simp only [nz1, nz2, nz3]
          refine Sym.take_at 16 78 (.string (tx (((((([h.flag] : List UInt8) ++ (fill_m h.link 100)) ++ [117, 115, 116, 97, 114, 0, 48, 48]) ++ (fill_m ([]) 80)) ++ (fill_m h.pfx 155)) ++ (fill_m ([]) 12)))) rfl rfl (by kernel_rfl) (by kernel_rfl) (by kernel_rfl) (fun _ _ _ h => nomatch h.1) rfl (fun _ hw => t_cat ((((([h.flag] : List UInt8) ++ (fill_m h.link 100)) ++ [117, 115, 116, 97, 114, 0, 48, 48]) ++ (fill_m ([]) 80)) ++ (fill_m h.pfx 155)) (fill_m ([]) 12) (by first | omega | (simp; omega) | (simp only [List.length_append, List.length_cons, List.length_nil] at *; omega)) rfl rfl rfl) (hm169.at 0 rfl) ?_
          simp only [nz1, nz2, nz3]
          refine one_ready 17 (by kernel_rfl) ?_
          refine opd rfl rfl (w_value 9 (.string (tx (((((([h.flag] : List UInt8) ++ (fill_m h.link 100)) ++ [117, 115, 116, 97, 114, 0, 48, 48]) ++ (fill_m ([]) 80)) ++ (fill_m h.pfx 155)) ++ (fill_m ([]) 12)))) rfl (run_as rfl rfl) ⟨hm169.at 0 rfl, ?_⟩)
          simp only [nz1, nz2, nz3]
          refine wpAnyH_done (by kernel_rfl) ?_ _
          exact ⟨rfl, g161, rfl, hm169⟩
        · refine opd rfl rfl (m_call hm160 71 (.string (tx (fill_m ([]) 80))) rfl (run_fill rfl rfl rfl) (fill_any ([]) 80  _  (by first | omega | assumption | (simp; done) | (simp; omega) | (simp only [List.length_append, List.length_cons, List.length_nil]; omega) | (simp only [List.length_append, List.length_cons, List.length_nil] at *; omega) | decide) (by first | omega | assumption | (simp; done) | (simp; omega) | (simp only [List.length_append, List.length_cons, List.length_nil]; omega) | (simp only [List.length_append, List.length_cons, List.length_nil] at *; omega) | decide)) (fun w171 hm172 => ?_))
          have hf173 : (((fill_m ([]) 80).length : Nat) : Int) = 80 := fill_len ([]) 80 (by first | omega | (simp; done) | (simp; omega))
          refine ⟨hm172.at 0 rfl, ?_⟩
          simp only [nz1, nz2, nz3]
          refine two_ready 3 13 (by kernel_rfl) ?_ ?_
          · refine opd rfl rfl (w_value 65 (.string (tx ([h.flag] : List UInt8))) rfl (r_stringR ([h.flag]) (by have h := Rs.blk (enc := eB) (l := ([h.flag] : List UInt8)) (hm172.at 2 rfl) rfl rfl eB_len (Nat.le_refl _); unfold Rs at h; rw [eB_map] at h; exact h) Tryd.underlying34 Tryd.underlying5 Tryd.underlying9 rfl rfl) ⟨hm172.at 0 rfl, ?_⟩)
            simp only [nz1, nz2, nz3]
            refine Sym.take_at 7 69 (.string (tx (([h.flag] : List UInt8) ++ (fill_m h.link 100)))) rfl rfl (by kernel_rfl) (by kernel_rfl) (by kernel_rfl) (fun _ _ _ h => nomatch h.1) rfl (fun _ hw => t_cat ([h.flag] : List UInt8) (fill_m h.link 100) (by first | omega | (simp; omega) | (simp only [List.length_append, List.length_cons, List.length_nil] at *; omega)) rfl rfl rfl) (hm172.at 0 rfl) ?_
            simp only [nz1, nz2, nz3]
            refine Sym.take_at 8 70 (.string (tx ((([h.flag] : List UInt8) ++ (fill_m h.link 100)) ++ [117, 115, 116, 97, 114, 0, 48, 48]))) rfl rfl (by kernel_rfl) (by kernel_rfl) (by kernel_rfl) (fun _ _ _ h => nomatch h.1) rfl (fun _ hw => t_cat (([h.flag] : List UInt8) ++ (fill_m h.link 100)) ([117, 115, 116, 97, 114, 0, 48, 48]) (by first | omega | (simp; omega) | (simp only [List.length_append, List.length_cons, List.length_nil] at *; omega)) rfl rfl rfl) (hm172.at 0 rfl) ?_
            simp only [nz1, nz2, nz3]
            refine Sym.take_at 10 72 (.string (tx (((([h.flag] : List UInt8) ++ (fill_m h.link 100)) ++ [117, 115, 116, 97, 114, 0, 48, 48]) ++ (fill_m ([]) 80)))) rfl rfl (by kernel_rfl) (by kernel_rfl) (by kernel_rfl) (fun _ _ _ h => nomatch h.1) rfl (fun _ hw => t_cat ((([h.flag] : List UInt8) ++ (fill_m h.link 100)) ++ [117, 115, 116, 97, 114, 0, 48, 48]) (fill_m ([]) 80) (by first | omega | (simp; omega) | (simp only [List.length_append, List.length_cons, List.length_nil] at *; omega)) rfl rfl rfl) (hm172.at 0 rfl) ?_
            simp only [nz1, nz2, nz3]
            refine one_ready 13 (by kernel_rfl) ?_
            refine opd rfl rfl (m_call hm172 75 (.string (tx (fill_m h.pfx 155))) rfl (run_fill rfl rfl rfl) (fill_any h.pfx 155  _  (by first | omega | assumption | (simp; done) | (simp; omega) | (simp only [List.length_append, List.length_cons, List.length_nil]; omega) | (simp only [List.length_append, List.length_cons, List.length_nil] at *; omega) | decide) (by first | omega | assumption | (simp; done) | (simp; omega) | (simp only [List.length_append, List.length_cons, List.length_nil]; omega) | (simp only [List.length_append, List.length_cons, List.length_nil] at *; omega) | decide)) (fun w174 hm175 => ?_))
            have hf176 : (((fill_m h.pfx 155).length : Nat) : Int) = 155 := fill_len h.pfx 155 (by first | omega | (simp; done) | (simp; omega))
            refine ⟨hm175.at 0 rfl, ?_⟩
            simp only [nz1, nz2, nz3]
            refine Sym.take_at 14 76 (.string (tx ((((([h.flag] : List UInt8) ++ (fill_m h.link 100)) ++ [117, 115, 116, 97, 114, 0, 48, 48]) ++ (fill_m ([]) 80)) ++ (fill_m h.pfx 155)))) rfl rfl (by kernel_rfl) (by kernel_rfl) (by kernel_rfl) (fun _ _ _ h => nomatch h.1) rfl (fun _ hw => t_cat (((([h.flag] : List UInt8) ++ (fill_m h.link 100)) ++ [117, 115, 116, 97, 114, 0, 48, 48]) ++ (fill_m ([]) 80)) (fill_m h.pfx 155) (by first | omega | (simp; omega) | (simp only [List.length_append, List.length_cons, List.length_nil] at *; omega)) rfl rfl rfl) (hm175.at 0 rfl) ?_
            simp only [nz1, nz2, nz3]
            refine one_ready 15 (by kernel_rfl) ?_
            refine opd rfl rfl (m_call hm175 77 (.string (tx (fill_m ([]) 12))) rfl (run_fill rfl rfl rfl) (fill_any ([]) 12  _  (by first | omega | assumption | (simp; done) | (simp; omega) | (simp only [List.length_append, List.length_cons, List.length_nil]; omega) | (simp only [List.length_append, List.length_cons, List.length_nil] at *; omega) | decide) (by first | omega | assumption | (simp; done) | (simp; omega) | (simp only [List.length_append, List.length_cons, List.length_nil]; omega) | (simp only [List.length_append, List.length_cons, List.length_nil] at *; omega) | decide)) (fun w177 hm178 => ?_))
            have hf179 : (((fill_m ([]) 12).length : Nat) : Int) = 12 := fill_len ([]) 12 (by first | omega | (simp; done) | (simp; omega))
            refine ⟨hm178.at 0 rfl, ?_⟩
            simp only [nz1, nz2, nz3]
            refine Sym.take_at 16 78 (.string (tx (((((([h.flag] : List UInt8) ++ (fill_m h.link 100)) ++ [117, 115, 116, 97, 114, 0, 48, 48]) ++ (fill_m ([]) 80)) ++ (fill_m h.pfx 155)) ++ (fill_m ([]) 12)))) rfl rfl (by kernel_rfl) (by kernel_rfl) (by kernel_rfl) (fun _ _ _ h => nomatch h.1) rfl (fun _ hw => t_cat ((((([h.flag] : List UInt8) ++ (fill_m h.link 100)) ++ [117, 115, 116, 97, 114, 0, 48, 48]) ++ (fill_m ([]) 80)) ++ (fill_m h.pfx 155)) (fill_m ([]) 12) (by first | omega | (simp; omega) | (simp only [List.length_append, List.length_cons, List.length_nil] at *; omega)) rfl rfl rfl) (hm178.at 0 rfl) ?_
            simp only [nz1, nz2, nz3]
            refine one_ready 17 (by kernel_rfl) ?_
            refine opd rfl rfl (w_value 9 (.string (tx (((((([h.flag] : List UInt8) ++ (fill_m h.link 100)) ++ [117, 115, 116, 97, 114, 0, 48, 48]) ++ (fill_m ([]) 80)) ++ (fill_m h.pfx 155)) ++ (fill_m ([]) 12)))) rfl (run_as rfl rfl) ⟨hm178.at 0 rfl, ?_⟩)
            simp only [nz1, nz2, nz3]
            refine wpAnyH_done (by kernel_rfl) ?_ _
            exact ⟨rfl, g161, rfl, hm178⟩
          · refine opd rfl rfl (m_call hm172 75 (.string (tx (fill_m h.pfx 155))) rfl (run_fill rfl rfl rfl) (fill_any h.pfx 155  _  (by first | omega | assumption | (simp; done) | (simp; omega) | (simp only [List.length_append, List.length_cons, List.length_nil]; omega) | (simp only [List.length_append, List.length_cons, List.length_nil] at *; omega) | decide) (by first | omega | assumption | (simp; done) | (simp; omega) | (simp only [List.length_append, List.length_cons, List.length_nil]; omega) | (simp only [List.length_append, List.length_cons, List.length_nil] at *; omega) | decide)) (fun w180 hm181 => ?_))
            have hf182 : (((fill_m h.pfx 155).length : Nat) : Int) = 155 := fill_len h.pfx 155 (by first | omega | (simp; done) | (simp; omega))
            refine ⟨hm181.at 0 rfl, ?_⟩
            simp only [nz1, nz2, nz3]
            refine two_ready 3 15 (by kernel_rfl) ?_ ?_
            · refine opd rfl rfl (w_value 65 (.string (tx ([h.flag] : List UInt8))) rfl (r_stringR ([h.flag]) (by have h := Rs.blk (enc := eB) (l := ([h.flag] : List UInt8)) (hm181.at 2 rfl) rfl rfl eB_len (Nat.le_refl _); unfold Rs at h; rw [eB_map] at h; exact h) Tryd.underlying34 Tryd.underlying5 Tryd.underlying9 rfl rfl) ⟨hm181.at 0 rfl, ?_⟩)
              simp only [nz1, nz2, nz3]
              refine Sym.take_at 7 69 (.string (tx (([h.flag] : List UInt8) ++ (fill_m h.link 100)))) rfl rfl (by kernel_rfl) (by kernel_rfl) (by kernel_rfl) (fun _ _ _ h => nomatch h.1) rfl (fun _ hw => t_cat ([h.flag] : List UInt8) (fill_m h.link 100) (by first | omega | (simp; omega) | (simp only [List.length_append, List.length_cons, List.length_nil] at *; omega)) rfl rfl rfl) (hm181.at 0 rfl) ?_
              simp only [nz1, nz2, nz3]
              refine Sym.take_at 8 70 (.string (tx ((([h.flag] : List UInt8) ++ (fill_m h.link 100)) ++ [117, 115, 116, 97, 114, 0, 48, 48]))) rfl rfl (by kernel_rfl) (by kernel_rfl) (by kernel_rfl) (fun _ _ _ h => nomatch h.1) rfl (fun _ hw => t_cat (([h.flag] : List UInt8) ++ (fill_m h.link 100)) ([117, 115, 116, 97, 114, 0, 48, 48]) (by first | omega | (simp; omega) | (simp only [List.length_append, List.length_cons, List.length_nil] at *; omega)) rfl rfl rfl) (hm181.at 0 rfl) ?_
              simp only [nz1, nz2, nz3]
              refine Sym.take_at 10 72 (.string (tx (((([h.flag] : List UInt8) ++ (fill_m h.link 100)) ++ [117, 115, 116, 97, 114, 0, 48, 48]) ++ (fill_m ([]) 80)))) rfl rfl (by kernel_rfl) (by kernel_rfl) (by kernel_rfl) (fun _ _ _ h => nomatch h.1) rfl (fun _ hw => t_cat ((([h.flag] : List UInt8) ++ (fill_m h.link 100)) ++ [117, 115, 116, 97, 114, 0, 48, 48]) (fill_m ([]) 80) (by first | omega | (simp; omega) | (simp only [List.length_append, List.length_cons, List.length_nil] at *; omega)) rfl rfl rfl) (hm181.at 0 rfl) ?_
              simp only [nz1, nz2, nz3]
              refine Sym.take_at 14 76 (.string (tx ((((([h.flag] : List UInt8) ++ (fill_m h.link 100)) ++ [117, 115, 116, 97, 114, 0, 48, 48]) ++ (fill_m ([]) 80)) ++ (fill_m h.pfx 155)))) rfl rfl (by kernel_rfl) (by kernel_rfl) (by kernel_rfl) (fun _ _ _ h => nomatch h.1) rfl (fun _ hw => t_cat (((([h.flag] : List UInt8) ++ (fill_m h.link 100)) ++ [117, 115, 116, 97, 114, 0, 48, 48]) ++ (fill_m ([]) 80)) (fill_m h.pfx 155) (by first | omega | (simp; omega) | (simp only [List.length_append, List.length_cons, List.length_nil] at *; omega)) rfl rfl rfl) (hm181.at 0 rfl) ?_
              simp only [nz1, nz2, nz3]
              refine one_ready 15 (by kernel_rfl) ?_
              refine opd rfl rfl (m_call hm181 77 (.string (tx (fill_m ([]) 12))) rfl (run_fill rfl rfl rfl) (fill_any ([]) 12  _  (by first | omega | assumption | (simp; done) | (simp; omega) | (simp only [List.length_append, List.length_cons, List.length_nil]; omega) | (simp only [List.length_append, List.length_cons, List.length_nil] at *; omega) | decide) (by first | omega | assumption | (simp; done) | (simp; omega) | (simp only [List.length_append, List.length_cons, List.length_nil]; omega) | (simp only [List.length_append, List.length_cons, List.length_nil] at *; omega) | decide)) (fun w183 hm184 => ?_))
              have hf185 : (((fill_m ([]) 12).length : Nat) : Int) = 12 := fill_len ([]) 12 (by first | omega | (simp; done) | (simp; omega))
              refine ⟨hm184.at 0 rfl, ?_⟩
              simp only [nz1, nz2, nz3]
              refine Sym.take_at 16 78 (.string (tx (((((([h.flag] : List UInt8) ++ (fill_m h.link 100)) ++ [117, 115, 116, 97, 114, 0, 48, 48]) ++ (fill_m ([]) 80)) ++ (fill_m h.pfx 155)) ++ (fill_m ([]) 12)))) rfl rfl (by kernel_rfl) (by kernel_rfl) (by kernel_rfl) (fun _ _ _ h => nomatch h.1) rfl (fun _ hw => t_cat ((((([h.flag] : List UInt8) ++ (fill_m h.link 100)) ++ [117, 115, 116, 97, 114, 0, 48, 48]) ++ (fill_m ([]) 80)) ++ (fill_m h.pfx 155)) (fill_m ([]) 12) (by first | omega | (simp; omega) | (simp only [List.length_append, List.length_cons, List.length_nil] at *; omega)) rfl rfl rfl) (hm184.at 0 rfl) ?_
              simp only [nz1, nz2, nz3]
              refine one_ready 17 (by kernel_rfl) ?_
              refine opd rfl rfl (w_value 9 (.string (tx (((((([h.flag] : List UInt8) ++ (fill_m h.link 100)) ++ [117, 115, 116, 97, 114, 0, 48, 48]) ++ (fill_m ([]) 80)) ++ (fill_m h.pfx 155)) ++ (fill_m ([]) 12)))) rfl (run_as rfl rfl) ⟨hm184.at 0 rfl, ?_⟩)
              simp only [nz1, nz2, nz3]
              refine wpAnyH_done (by kernel_rfl) ?_ _
              exact ⟨rfl, g161, rfl, hm184⟩
            · refine opd rfl rfl (m_call hm181 77 (.string (tx (fill_m ([]) 12))) rfl (run_fill rfl rfl rfl) (fill_any ([]) 12  _  (by first | omega | assumption | (simp; done) | (simp; omega) | (simp only [List.length_append, List.length_cons, List.length_nil]; omega) | (simp only [List.length_append, List.length_cons, List.length_nil] at *; omega) | decide) (by first | omega | assumption | (simp; done) | (simp; omega) | (simp only [List.length_append, List.length_cons, List.length_nil]; omega) | (simp only [List.length_append, List.length_cons, List.length_nil] at *; omega) | decide)) (fun w186 hm187 => ?_))
              have hf188 : (((fill_m ([]) 12).length : Nat) : Int) = 12 := fill_len ([]) 12 (by first | omega | (simp; done) | (simp; omega))
              refine ⟨hm187.at 0 rfl, ?_⟩
              simp only [nz1, nz2, nz3]
              refine one_ready 3 (by kernel_rfl) ?_
              refine opd rfl rfl (w_value 65 (.string (tx ([h.flag] : List UInt8))) rfl (r_stringR ([h.flag]) (by have h := Rs.blk (enc := eB) (l := ([h.flag] : List UInt8)) (hm187.at 2 rfl) rfl rfl eB_len (Nat.le_refl _); unfold Rs at h; rw [eB_map] at h; exact h) Tryd.underlying34 Tryd.underlying5 Tryd.underlying9 rfl rfl) ⟨hm187.at 0 rfl, ?_⟩)
              simp only [nz1, nz2, nz3]
              refine Sym.take_at 7 69 (.string (tx (([h.flag] : List UInt8) ++ (fill_m h.link 100)))) rfl rfl (by kernel_rfl) (by kernel_rfl) (by kernel_rfl) (fun _ _ _ h => nomatch h.1) rfl (fun _ hw => t_cat ([h.flag] : List UInt8) (fill_m h.link 100) (by first | omega | (simp; omega) | (simp only [List.length_append, List.length_cons, List.length_nil] at *; omega)) rfl rfl rfl) (hm187.at 0 rfl) ?_
              simp only [nz1, nz2, nz3]
              refine Sym.take_at 8 70 (.string (tx ((([h.flag] : List UInt8) ++ (fill_m h.link 100)) ++ [117, 115, 116, 97, 114, 0, 48, 48]))) rfl rfl (by kernel_rfl) (by kernel_rfl) (by kernel_rfl) (fun _ _ _ h => nomatch h.1) rfl (fun _ hw => t_cat (([h.flag] : List UInt8) ++ (fill_m h.link 100)) ([117, 115, 116, 97, 114, 0, 48, 48]) (by first | omega | (simp; omega) | (simp only [List.length_append, List.length_cons, List.length_nil] at *; omega)) rfl rfl rfl) (hm187.at 0 rfl) ?_
              simp only [nz1, nz2, nz3]
              refine Sym.take_at 10 72 (.string (tx (((([h.flag] : List UInt8) ++ (fill_m h.link 100)) ++ [117, 115, 116, 97, 114, 0, 48, 48]) ++ (fill_m ([]) 80)))) rfl rfl (by kernel_rfl) (by kernel_rfl) (by kernel_rfl) (fun _ _ _ h => nomatch h.1) rfl (fun _ hw => t_cat ((([h.flag] : List UInt8) ++ (fill_m h.link 100)) ++ [117, 115, 116, 97, 114, 0, 48, 48]) (fill_m ([]) 80) (by first | omega | (simp; omega) | (simp only [List.length_append, List.length_cons, List.length_nil] at *; omega)) rfl rfl rfl) (hm187.at 0 rfl) ?_
              simp only [nz1, nz2, nz3]
              refine Sym.take_at 14 76 (.string (tx ((((([h.flag] : List UInt8) ++ (fill_m h.link 100)) ++ [117, 115, 116, 97, 114, 0, 48, 48]) ++ (fill_m ([]) 80)) ++ (fill_m h.pfx 155)))) rfl rfl (by kernel_rfl) (by kernel_rfl) (by kernel_rfl) (fun _ _ _ h => nomatch h.1) rfl (fun _ hw => t_cat (((([h.flag] : List UInt8) ++ (fill_m h.link 100)) ++ [117, 115, 116, 97, 114, 0, 48, 48]) ++ (fill_m ([]) 80)) (fill_m h.pfx 155) (by first | omega | (simp; omega) | (simp only [List.length_append, List.length_cons, List.length_nil] at *; omega)) rfl rfl rfl) (hm187.at 0 rfl) ?_
              simp only [nz1, nz2, nz3]
              refine Sym.take_at 16 78 (.string (tx (((((([h.flag] : List UInt8) ++ (fill_m h.link 100)) ++ [117, 115, 116, 97, 114, 0, 48, 48]) ++ (fill_m ([]) 80)) ++ (fill_m h.pfx 155)) ++ (fill_m ([]) 12)))) rfl rfl (by kernel_rfl) (by kernel_rfl) (by kernel_rfl) (fun _ _ _ h => nomatch h.1) rfl (fun _ hw => t_cat ((((([h.flag] : List UInt8) ++ (fill_m h.link 100)) ++ [117, 115, 116, 97, 114, 0, 48, 48]) ++ (fill_m ([]) 80)) ++ (fill_m h.pfx 155)) (fill_m ([]) 12) (by first | omega | (simp; omega) | (simp only [List.length_append, List.length_cons, List.length_nil] at *; omega)) rfl rfl rfl) (hm187.at 0 rfl) ?_
              simp only [nz1, nz2, nz3]
              refine one_ready 17 (by kernel_rfl) ?_
              refine opd rfl rfl (w_value 9 (.string (tx (((((([h.flag] : List UInt8) ++ (fill_m h.link 100)) ++ [117, 115, 116, 97, 114, 0, 48, 48]) ++ (fill_m ([]) 80)) ++ (fill_m h.pfx 155)) ++ (fill_m ([]) 12)))) rfl (run_as rfl rfl) ⟨hm187.at 0 rfl, ?_⟩)
              simp only [nz1, nz2, nz3]
              refine wpAnyH_done (by kernel_rfl) ?_ _
              exact ⟨rfl, g161, rfl, hm187⟩
      · refine opd rfl rfl (m_call hm157 71 (.string (tx (fill_m ([]) 80))) rfl (run_fill rfl rfl rfl) (fill_any ([]) 80  _  (by first | omega | assumption | (simp; done) | (simp; omega) | (simp only [List.length_append, List.length_cons, List.length_nil]; omega) | (simp only [List.length_append, List.length_cons, List.length_nil] at *; omega) | decide) (by first | omega | assumption | (simp; done) | (simp; omega) | (simp only [List.length_append, List.length_cons, List.length_nil]; omega) | (simp only [List.length_append, List.length_cons, List.length_nil] at *; omega) | decide)) (fun w189 hm190 => ?_))
        have hf191 : (((fill_m ([]) 80).length : Nat) : Int) = 80 := fill_len ([]) 80 (by first | omega | (simp; done) | (simp; omega))
        refine ⟨hm190.at 0 rfl, ?_⟩
        simp only [nz1, nz2, nz3]
        refine two_ready 2 13 (by kernel_rfl) ?_ ?_
        · refine opd rfl rfl (m_make (c := #[.int .u8 ((h.flag.toNat : Nat) : Int)]) (T := 5) (fun g => .slice (some ⟨g, 0, none⟩) 1 1) hm190 64 rfl (by unfold execOp; go_simp; try rfl) (fun g194 w192 hm193 => ?_))
          refine ⟨hm193.at 0 rfl, ?_⟩
          simp only [nz1, nz2, nz3]
          refine two_ready 3 13 (by kernel_rfl) ?_ ?_
          · refine opd rfl rfl (w_value 65 (.string (tx ([h.flag] : List UInt8))) rfl (r_stringR ([h.flag]) (by have h := Rs.blk (enc := eB) (l := ([h.flag] : List UInt8)) (hm193.at 2 rfl) rfl rfl eB_len (Nat.le_refl _); unfold Rs at h; rw [eB_map] at h; exact h) Tryd.underlying34 Tryd.underlying5 Tryd.underlying9 rfl rfl) ⟨hm193.at 0 rfl, ?_⟩)
            simp only [nz1, nz2, nz3]
            refine Sym.take_at 7 69 (.string (tx (([h.flag] : List UInt8) ++ (fill_m h.link 100)))) rfl rfl (by kernel_rfl) (by kernel_rfl) (by kernel_rfl) (fun _ _ _ h => nomatch h.1) rfl (fun _ hw => t_cat ([h.flag] : List UInt8) (fill_m h.link 100) (by first | omega | (simp; omega) | (simp only [List.length_append, List.length_cons, List.length_nil] at *; omega)) rfl rfl rfl) (hm193.at 0 rfl) ?_
            simp only [nz1, nz2, nz3]
            refine Sym.take_at 8 70 (.string (tx ((([h.flag] : List UInt8) ++ (fill_m h.link 100)) ++ [117, 115, 116, 97, 114, 0, 48, 48]))) rfl rfl (by kernel_rfl) (by kernel_rfl) (by kernel_rfl) (fun _ _ _ h => nomatch h.1) rfl (fun _ hw => t_cat (([h.flag] : List UInt8) ++ (fill_m h.link 100)) ([117, 115, 116, 97, 114, 0, 48, 48]) (by first | omega | (simp; omega) | (simp only [List.length_append, List.length_cons, List.length_nil] at *; omega)) rfl rfl rfl) (hm193.at 0 rfl) ?_
            simp only [nz1, nz2, nz3]
            refine Sym.take_at 10 72 (.string (tx (((([h.flag] : List UInt8) ++ (fill_m h.link 100)) ++ [117, 115, 116, 97, 114, 0, 48, 48]) ++ (fill_m ([]) 80)))) rfl rfl (by kernel_rfl) (by kernel_rfl) (by kernel_rfl) (fun _ _ _ h => nomatch h.1) rfl (fun _ hw => t_cat ((([h.flag] : List UInt8) ++ (fill_m h.link 100)) ++ [117, 115, 116, 97, 114, 0, 48, 48]) (fill_m ([]) 80) (by first | omega | (simp; omega) | (simp only [List.length_append, List.length_cons, List.length_nil] at *; omega)) rfl rfl rfl) (hm193.at 0 rfl) ?_
            simp only [nz1, nz2, nz3]
            refine one_ready 13 (by kernel_rfl) ?_
            refine opd rfl rfl (m_call hm193 75 (.string (tx (fill_m h.pfx 155))) rfl (run_fill rfl rfl rfl) (fill_any h.pfx 155  _  (by first | omega | assumption | (simp; done) | (simp; omega) | (simp only [List.length_append, List.length_cons, List.length_nil]; omega) | (simp only [List.length_append, List.length_cons, List.length_nil] at *; omega) | decide) (by first | omega | assumption | (simp; done) | (simp; omega) | (simp only [List.length_append, List.length_cons, List.length_nil]; omega) | (simp only [List.length_append, List.length_cons, List.length_nil] at *; omega) | decide)) (fun w195 hm196 => ?_))
            have hf197 : (((fill_m h.pfx 155).length : Nat) : Int) = 155 := fill_len h.pfx 155 (by first | omega | (simp; done) | (simp; omega))
            refine ⟨hm196.at 0 rfl, ?_⟩
            simp only [nz1, nz2, nz3]
            refine Sym.take_at 14 76 (.string (tx ((((([h.flag] : List UInt8) ++ (fill_m h.link 100)) ++ [117, 115, 116, 97, 114, 0, 48, 48]) ++ (fill_m ([]) 80)) ++ (fill_m h.pfx 155)))) rfl rfl (by kernel_rfl) (by kernel_rfl) (by kernel_rfl) (fun _ _ _ h => nomatch h.1) rfl (fun _ hw => t_cat (((([h.flag] : List UInt8) ++ (fill_m h.link 100)) ++ [117, 115, 116, 97, 114, 0, 48, 48]) ++ (fill_m ([]) 80)) (fill_m h.pfx 155) (by first | omega | (simp; omega) | (simp only [List.length_append, List.length_cons, List.length_nil] at *; omega)) rfl rfl rfl) (hm196.at 0 rfl) ?_
            simp only [nz1, nz2, nz3]
            refine one_ready 15 (by kernel_rfl) ?_
            refine opd rfl rfl (m_call hm196 77 (.string (tx (fill_m ([]) 12))) rfl (run_fill rfl rfl rfl) (fill_any ([]) 12  _  (by first | omega | assumption | (simp; done) | (simp; omega) | (simp only [List.length_append, List.length_cons, List.length_nil]; omega) | (simp only [List.length_append, List.length_cons, List.length_nil] at *; omega) | decide) (by first | omega | assumption | (simp; done) | (simp; omega) | (simp only [List.length_append, List.length_cons, List.length_nil]; omega) | (simp only [List.length_append, List.length_cons, List.length_nil] at *; omega) | decide)) (fun w198 hm199 => ?_))
            have hf200 : (((fill_m ([]) 12).length : Nat) : Int) = 12 := fill_len ([]) 12 (by first | omega | (simp; done) | (simp; omega))
            refine ⟨hm199.at 0 rfl, ?_⟩
            simp only [nz1, nz2, nz3]
            refine Sym.take_at 16 78 (.string (tx (((((([h.flag] : List UInt8) ++ (fill_m h.link 100)) ++ [117, 115, 116, 97, 114, 0, 48, 48]) ++ (fill_m ([]) 80)) ++ (fill_m h.pfx 155)) ++ (fill_m ([]) 12)))) rfl rfl (by kernel_rfl) (by kernel_rfl) (by kernel_rfl) (fun _ _ _ h => nomatch h.1) rfl (fun _ hw => t_cat ((((([h.flag] : List UInt8) ++ (fill_m h.link 100)) ++ [117, 115, 116, 97, 114, 0, 48, 48]) ++ (fill_m ([]) 80)) ++ (fill_m h.pfx 155)) (fill_m ([]) 12) (by first | omega | (simp; omega) | (simp only [List.length_append, List.length_cons, List.length_nil] at *; omega)) rfl rfl rfl) (hm199.at 0 rfl) ?_
            simp only [nz1, nz2, nz3]
            refine one_ready 17 (by kernel_rfl) ?_
            refine opd rfl rfl (w_value 9 (.string (tx (((((([h.flag] : List UInt8) ++ (fill_m h.link 100)) ++ [117, 115, 116, 97, 114, 0, 48, 48]) ++ (fill_m ([]) 80)) ++ (fill_m h.pfx 155)) ++ (fill_m ([]) 12)))) rfl (run_as rfl rfl) ⟨hm199.at 0 rfl, ?_⟩)
            simp only [nz1, nz2, nz3]
            refine wpAnyH_done (by kernel_rfl) ?_ _
            exact ⟨rfl, g194, rfl, hm199⟩
          · refine opd rfl rfl (m_call hm193 75 (.string (tx (fill_m h.pfx 155))) rfl (run_fill rfl rfl rfl) (fill_any h.pfx 155  _  (by first | omega | assumption | (simp; done) | (simp; omega) | (simp only [List.length_append, List.length_cons, List.length_nil]; omega) | (simp only [List.length_append, List.length_cons, List.length_nil] at *; omega) | decide) (by first | omega | assumption | (simp; done) | (simp; omega) | (simp only [List.length_append, List.length_cons, List.length_nil]; omega) | (simp only [List.length_append, List.length_cons, List.length_nil] at *; omega) | decide)) (fun w201 hm202 => ?_))
            have hf203 : (((fill_m h.pfx 155).length : Nat) : Int) = 155 := fill_len h.pfx 155 (by first | omega | (simp; done) | (simp; omega))
            refine ⟨hm202.at 0 rfl, ?_⟩
            simp only [nz1, nz2, nz3]
            refine two_ready 3 15 (by kernel_rfl) ?_ ?_
            · refine opd rfl rfl (w_value 65 (.string (tx ([h.flag] : List UInt8))) rfl (r_stringR ([h.flag]) (by have h := Rs.blk (enc := eB) (l := ([h.flag] : List UInt8)) (hm202.at 2 rfl) rfl rfl eB_len (Nat.le_refl _); unfold Rs at h; rw [eB_map] at h; exact h) Tryd.underlying34 Tryd.underlying5 Tryd.underlying9 rfl rfl) ⟨hm202.at 0 rfl, ?_⟩)
              simp only [nz1, nz2, nz3]
              refine Sym.take_at 7 69 (.string (tx (([h.flag] : List UInt8) ++ (fill_m h.link 100)))) rfl rfl (by kernel_rfl) (by kernel_rfl) (by kernel_rfl) (fun _ _ _ h => nomatch h.1) rfl (fun _ hw => t_cat ([h.flag] : List UInt8) (fill_m h.link 100) (by first | omega | (simp; omega) | (simp only [List.length_append, List.length_cons, List.length_nil] at *; omega)) rfl rfl rfl) (hm202.at 0 rfl) ?_
              simp only [nz1, nz2, nz3]
              refine Sym.take_at 8 70 (.string (tx ((([h.flag] : List UInt8) ++ (fill_m h.link 100)) ++ [117, 115, 116, 97, 114, 0, 48, 48]))) rfl rfl (by kernel_rfl) (by kernel_rfl) (by kernel_rfl) (fun _ _ _ h => nomatch h.1) rfl (fun _ hw => t_cat (([h.flag] : List UInt8) ++ (fill_m h.link 100)) ([117, 115, 116, 97, 114, 0, 48, 48]) (by first | omega | (simp; omega) | (simp only [List.length_append, List.length_cons, List.length_nil] at *; omega)) rfl rfl rfl) (hm202.at 0 rfl) ?_
              simp only [nz1, nz2, nz3]
              refine Sym.take_at 10 72 (.string (tx (((([h.flag] : List UInt8) ++ (fill_m h.link 100)) ++ [117, 115, 116, 97, 114, 0, 48, 48]) ++ (fill_m ([]) 80)))) rfl rfl (by kernel_rfl) (by kernel_rfl) (by kernel_rfl) (fun _ _ _ h => nomatch h.1) rfl (fun _ hw => t_cat ((([h.flag] : List UInt8) ++ (fill_m h.link 100)) ++ [117, 115, 116, 97, 114, 0, 48, 48]) (fill_m ([]) 80) (by first | omega | (simp; omega) | (simp only [List.length_append, List.length_cons, List.length_nil] at *; omega)) rfl rfl rfl) (hm202.at 0 rfl) ?_
              simp only [nz1, nz2, nz3]
              refine Sym.take_at 14 76 (.string (tx ((((([h.flag] : List UInt8) ++ (fill_m h.link 100)) ++ [117, 115, 116, 97, 114, 0, 48, 48]) ++ (fill_m ([]) 80)) ++ (fill_m h.pfx 155)))) rfl rfl (by kernel_rfl) (by kernel_rfl) (by kernel_rfl) (fun _ _ _ h => nomatch h.1) rfl (fun _ hw => t_cat (((([h.flag] : List UInt8) ++ (fill_m h.link 100)) ++ [117, 115, 116, 97, 114, 0, 48, 48]) ++ (fill_m ([]) 80)) (fill_m h.pfx 155) (by first | omega | (simp; omega) | (simp only [List.length_append, List.length_cons, List.length_nil] at *; omega)) rfl rfl rfl) (hm202.at 0 rfl) ?_
              simp only [nz1, nz2, nz3]
              refine one_ready 15 (by kernel_rfl) ?_
              refine opd rfl rfl (m_call hm202 77 (.string (tx (fill_m ([]) 12))) rfl (run_fill rfl rfl rfl) (fill_any ([]) 12  _  (by first | omega | assumption | (simp; done) | (simp; omega) | (simp only [List.length_append, List.length_cons, List.length_nil]; omega) | (simp only [List.length_append, List.length_cons, List.length_nil] at *; omega) | decide) (by first | omega | assumption | (simp; done) | (simp; omega) | (simp only [List.length_append, List.length_cons, List.length_nil]; omega) | (simp only [List.length_append, List.length_cons, List.length_nil] at *; omega) | decide)) (fun w204 hm205 => ?_))
              have hf206 : (((fill_m ([]) 12).length : Nat) : Int) = 12 := fill_len ([]) 12 (by first | omega | (simp; done) | (simp; omega))
              refine ⟨hm205.at 0 rfl, ?_⟩
              simp only [nz1, nz2, nz3]
              refine Sym.take_at 16 78 (.string (tx (((((([h.flag] : List UInt8) ++ (fill_m h.link 100)) ++ [117, 115, 116, 97, 114, 0, 48, 48]) ++ (fill_m ([]) 80)) ++ (fill_m h.pfx 155)) ++ (fill_m ([]) 12)))) rfl rfl (by kernel_rfl) (by kernel_rfl) (by kernel_rfl) (fun _ _ _ h => nomatch h.1) rfl (fun _ hw => t_cat ((((([h.flag] : List UInt8) ++ (fill_m h.link 100)) ++ [117, 115, 116, 97, 114, 0, 48, 48]) ++ (fill_m ([]) 80)) ++ (fill_m h.pfx 155)) (fill_m ([]) 12) (by first | omega | (simp; omega) | (simp only [List.length_append, List.length_cons, List.length_nil] at *; omega)) rfl rfl rfl) (hm205.at 0 rfl) ?_
              simp only [nz1, nz2, nz3]
              refine one_ready 17 (by kernel_rfl) ?_
              refine opd rfl rfl (w_value 9 (.string (tx (((((([h.flag] : List UInt8) ++ (fill_m h.link 100)) ++ [117, 115, 116, 97, 114, 0, 48, 48]) ++ (fill_m ([]) 80)) ++ (fill_m h.pfx 155)) ++ (fill_m ([]) 12)))) rfl (run_as rfl rfl) ⟨hm205.at 0 rfl, ?_⟩)
              simp only [nz1, nz2, nz3]
              refine wpAnyH_done (by kernel_rfl) ?_ _
              exact ⟨rfl, g194, rfl, hm205⟩
            · refine opd rfl rfl (m_call hm202 77 (.string (tx (fill_m ([]) 12))) rfl (run_fill rfl rfl rfl) (fill_any ([]) 12  _  (by first | omega | assumption | (simp; done) | (simp; omega) | (simp only [List.length_append, List.length_cons, List.length_nil]; omega) | (simp only [List.length_append, List.length_cons, List.length_nil] at *; omega) | decide) (by first | omega | assumption | (simp; done) | (simp; omega) | (simp only [List.length_append, List.length_cons, List.length_nil]; omega) | (simp only [List.length_append, List.length_cons, List.length_nil] at *; omega) | decide)) (fun w207 hm208 => ?_))
              have hf209 : (((fill_m ([]) 12).length : Nat) : Int) = 12 := fill_len ([]) 12 (by first | omega | (simp; done) | (simp; omega))
              refine ⟨hm208.at 0 rfl, ?_⟩
              simp only [nz1, nz2, nz3]
              refine one_ready 3 (by kernel_rfl) ?_
              refine opd rfl rfl (w_value 65 (.string (tx ([h.flag] : List UInt8))) rfl (r_stringR ([h.flag]) (by have h := Rs.blk (enc := eB) (l := ([h.flag] : List UInt8)) (hm208.at 2 rfl) rfl rfl eB_len (Nat.le_refl _); unfold Rs at h; rw [eB_map] at h; exact h) Tryd.underlying34 Tryd.underlying5 Tryd.underlying9 rfl rfl) ⟨hm208.at 0 rfl, ?_⟩)
              simp only [nz1, nz2, nz3]
              refine Sym.take_at 7 69 (.string (tx (([h.flag] : List UInt8) ++ (fill_m h.link 100)))) rfl rfl (by kernel_rfl) (by kernel_rfl) (by kernel_rfl) (fun _ _ _ h => nomatch h.1) rfl (fun _ hw => t_cat ([h.flag] : List UInt8) (fill_m h.link 100) (by first | omega | (simp; omega) | (simp only [List.length_append, List.length_cons, List.length_nil] at *; omega)) rfl rfl rfl) (hm208.at 0 rfl) ?_
              simp only [nz1, nz2, nz3]
              refine Sym.take_at 8 70 (.string (tx ((([h.flag] : List UInt8) ++ (fill_m h.link 100)) ++ [117, 115, 116, 97, 114, 0, 48, 48]))) rfl rfl (by kernel_rfl) (by kernel_rfl) (by kernel_rfl) (fun _ _ _ h => nomatch h.1) rfl (fun _ hw => t_cat (([h.flag] : List UInt8) ++ (fill_m h.link 100)) ([117, 115, 116, 97, 114, 0, 48, 48]) (by first | omega | (simp; omega) | (simp only [List.length_append, List.length_cons, List.length_nil] at *; omega)) rfl rfl rfl) (hm208.at 0 rfl) ?_
              simp only [nz1, nz2, nz3]
              refine Sym.take_at 10 72 (.string (tx (((([h.flag] : List UInt8) ++ (fill_m h.link 100)) ++ [117, 115, 116, 97, 114, 0, 48, 48]) ++ (fill_m ([]) 80)))) rfl rfl (by kernel_rfl) (by kernel_rfl) (by kernel_rfl) (fun _ _ _ h => nomatch h.1) rfl (fun _ hw => t_cat ((([h.flag] : List UInt8) ++ (fill_m h.link 100)) ++ [117, 115, 116, 97, 114, 0, 48, 48]) (fill_m ([]) 80) (by first | omega | (simp; omega) | (simp only [List.length_append, List.length_cons, List.length_nil] at *; omega)) rfl rfl rfl) (hm208.at 0 rfl) ?_
              simp only [nz1, nz2, nz3]
              refine Sym.take_at 14 76 (.string (tx ((((([h.flag] : List UInt8) ++ (fill_m h.link 100)) ++ [117, 115, 116, 97, 114, 0, 48, 48]) ++ (fill_m ([]) 80)) ++ (fill_m h.pfx 155)))) rfl rfl (by kernel_rfl) (by kernel_rfl) (by kernel_rfl) (fun _ _ _ h => nomatch h.1) rfl (fun _ hw => t_cat (((([h.flag] : List UInt8) ++ (fill_m h.link 100)) ++ [117, 115, 116, 97, 114, 0, 48, 48]) ++ (fill_m ([]) 80)) (fill_m h.pfx 155) (by first | omega | (simp; omega) | (simp only [List.length_append, List.length_cons, List.length_nil] at *; omega)) rfl rfl rfl) (hm208.at 0 rfl) ?_
              simp only [nz1, nz2, nz3]
              refine Sym.take_at 16 78 (.string (tx (((((([h.flag] : List UInt8) ++ (fill_m h.link 100)) ++ [117, 115, 116, 97, 114, 0, 48, 48]) ++ (fill_m ([]) 80)) ++ (fill_m h.pfx 155)) ++ (fill_m ([]) 12)))) rfl rfl (by kernel_rfl) (by kernel_rfl) (by kernel_rfl) (fun _ _ _ h => nomatch h.1) rfl (fun _ hw => t_cat ((((([h.flag] : List UInt8) ++ (fill_m h.link 100)) ++ [117, 115, 116, 97, 114, 0, 48, 48]) ++ (fill_m ([]) 80)) ++ (fill_m h.pfx 155)) (fill_m ([]) 12) (by first | omega | (simp; omega) | (simp only [List.length_append, List.length_cons, List.length_nil] at *; omega)) rfl rfl rfl) (hm208.at 0 rfl) ?_
              simp only [nz1, nz2, nz3]
              refine one_ready 17 (by kernel_rfl) ?_
              refine opd rfl rfl (w_value 9 (.string (tx (((((([h.flag] : List UInt8) ++ (fill_m h.link 100)) ++ [117, 115, 116, 97, 114, 0, 48, 48]) ++ (fill_m ([]) 80)) ++ (fill_m h.pfx 155)) ++ (fill_m ([]) 12)))) rfl (run_as rfl rfl) ⟨hm208.at 0 rfl, ?_⟩)
              simp only [nz1, nz2, nz3]
              refine wpAnyH_done (by kernel_rfl) ?_ _
              exact ⟨rfl, g194, rfl, hm208⟩
        · refine opd rfl rfl (m_call hm190 75 (.string (tx (fill_m h.pfx 155))) rfl (run_fill rfl rfl rfl) (fill_any h.pfx 155  _  (by first | omega | assumption | (simp; done) | (simp; omega) | (simp only [List.length_append, List.length_cons, List.length_nil]; omega) | (simp only [List.length_append, List.length_cons, List.length_nil] at *; omega) | decide) (by first | omega | assumption | (simp; done) | (simp; omega) | (simp only [List.length_append, List.length_cons, List.length_nil]; omega) | (simp only [List.length_append, List.length_cons, List.length_nil] at *; omega) | decide)) (fun w210 hm211 => ?_))
          have hf212 : (((fill_m h.pfx 155).length : Nat) : Int) = 155 := fill_len h.pfx 155 (by first | omega | (simp; done) | (simp; omega))
          refine ⟨hm211.at 0 rfl, ?_⟩
          simp only [nz1, nz2, nz3]
          refine two_ready 2 15 (by kernel_rfl) ?_ ?_
          · refine opd rfl rfl (m_make (c := #[.int .u8 ((h.flag.toNat : Nat) : Int)]) (T := 5) (fun g => .slice (some ⟨g, 0, none⟩) 1 1) hm211 64 rfl (by unfold execOp; go_simp; try rfl) (fun g215 w213 hm214 => ?_))
            refine ⟨hm214.at 0 rfl, ?_⟩
            simp only [nz1, nz2, nz3]
            refine two_ready 3 15 (by kernel_rfl) ?_ ?_
            · refine opd rfl rfl (w_value 65 (.string (tx ([h.flag] : List UInt8))) rfl (r_stringR ([h.flag]) (by have h := Rs.blk (enc := eB) (l := ([h.flag] : List UInt8)) (hm214.at 2 rfl) rfl rfl eB_len (Nat.le_refl _); unfold Rs at h; rw [eB_map] at h; exact h) Tryd.underlying34 Tryd.underlying5 Tryd.underlying9 rfl rfl) ⟨hm214.at 0 rfl, ?_⟩)
              simp only [nz1, nz2, nz3]
              refine Sym.take_at 7 69 (.string (tx (([h.flag] : List UInt8) ++ (fill_m h.link 100)))) rfl rfl (by kernel_rfl) (by kernel_rfl) (by kernel_rfl) (fun _ _ _ h => nomatch h.1) rfl (fun _ hw => t_cat ([h.flag] : List UInt8) (fill_m h.link 100) (by first | omega | (simp; omega) | (simp only [List.length_append, List.length_cons, List.length_nil] at *; omega)) rfl rfl rfl) (hm214.at 0 rfl) ?_
              simp only [nz1, nz2, nz3]
              refine Sym.take_at 8 70 (.string (tx ((([h.flag] : List UInt8) ++ (fill_m h.link 100)) ++ [117, 115, 116, 97, 114, 0, 48, 48]))) rfl rfl (by kernel_rfl) (by kernel_rfl) (by kernel_rfl) (fun _ _ _ h => nomatch h.1) rfl (fun _ hw => t_cat (([h.flag] : List UInt8) ++ (fill_m h.link 100)) ([117, 115, 116, 97, 114, 0, 48, 48]) (by first | omega | (simp; omega) | (simp only [List.length_append, List.length_cons, List.length_nil] at *; omega)) rfl rfl rfl) (hm214.at 0 rfl) ?_
              simp only [nz1, nz2, nz3]
              refine Sym.take_at 10 72 (.string (tx (((([h.flag] : List UInt8) ++ (fill_m h.link 100)) ++ [117, 115, 116, 97, 114, 0, 48, 48]) ++ (fill_m ([]) 80)))) rfl rfl (by kernel_rfl) (by kernel_rfl) (by kernel_rfl) (fun _ _ _ h => nomatch h.1) rfl (fun _ hw => t_cat ((([h.flag] : List UInt8) ++ (fill_m h.link 100)) ++ [117, 115, 116, 97, 114, 0, 48, 48]) (fill_m ([]) 80) (by first | omega | (simp; omega) | (simp only [List.length_append, List.length_cons, List.length_nil] at *; omega)) rfl rfl rfl) (hm214.at 0 rfl) ?_
              simp only [nz1, nz2, nz3]
              refine Sym.take_at 14 76 (.string (tx ((((([h.flag] : List UInt8) ++ (fill_m h.link 100)) ++ [117, 115, 116, 97, 114, 0, 48, 48]) ++ (fill_m ([]) 80)) ++ (fill_m h.pfx 155)))) rfl rfl (by kernel_rfl) (by kernel_rfl) (by kernel_rfl) (fun _ _ _ h => nomatch h.1) rfl (fun _ hw => t_cat (((([h.flag] : List UInt8) ++ (fill_m h.link 100)) ++ [117, 115, 116, 97, 114, 0, 48, 48]) ++ (fill_m ([]) 80)) (fill_m h.pfx 155) (by first | omega | (simp; omega) | (simp only [List.length_append, List.length_cons, List.length_nil] at *; omega)) rfl rfl rfl) (hm214.at 0 rfl) ?_
              simp only [nz1, nz2, nz3]
              refine one_ready 15 (by kernel_rfl) ?_
              refine opd rfl rfl (m_call hm214 77 (.string (tx (fill_m ([]) 12))) rfl (run_fill rfl rfl rfl) (fill_any ([]) 12  _  (by first | omega | assumption | (simp; done) | (simp; omega) | (simp only [List.length_append, List.length_cons, List.length_nil]; omega) | (simp only [List.length_append, List.length_cons, List.length_nil] at *; omega) | decide) (by first | omega | assumption | (simp; done) | (simp; omega) | (simp only [List.length_append, List.length_cons, List.length_nil]; omega) | (simp only [List.length_append, List.length_cons, List.length_nil] at *; omega) | decide)) (fun w216 hm217 => ?_))
              have hf218 : (((fill_m ([]) 12).length : Nat) : Int) = 12 := fill_len ([]) 12 (by first | omega | (simp; done) | (simp; omega))
              refine ⟨hm217.at 0 rfl, ?_⟩
              simp only [nz1, nz2, nz3]
              refine Sym.take_at 16 78 (.string (tx (((((([h.flag] : List UInt8) ++ (fill_m h.link 100)) ++ [117, 115, 116, 97, 114, 0, 48, 48]) ++ (fill_m ([]) 80)) ++ (fill_m h.pfx 155)) ++ (fill_m ([]) 12)))) rfl rfl (by kernel_rfl) (by kernel_rfl) (by kernel_rfl) (fun _ _ _ h => nomatch h.1) rfl (fun _ hw => t_cat ((((([h.flag] : List UInt8) ++ (fill_m h.link 100)) ++ [117, 115, 116, 97, 114, 0, 48, 48]) ++ (fill_m ([]) 80)) ++ (fill_m h.pfx 155)) (fill_m ([]) 12) (by first | omega | (simp; omega) | (simp only [List.length_append, List.length_cons, List.length_nil] at *; omega)) rfl rfl rfl) (hm217.at 0 rfl) ?_
              simp only [nz1, nz2, nz3]
              refine one_ready 17 (by kernel_rfl) ?_
              refine opd rfl rfl (w_value 9 (.string (tx (((((([h.flag] : List UInt8) ++ (fill_m h.link 100)) ++ [117, 115, 116, 97, 114, 0, 48, 48]) ++ (fill_m ([]) 80)) ++ (fill_m h.pfx 155)) ++ (fill_m ([]) 12)))) rfl (run_as rfl rfl) ⟨hm217.at 0 rfl, ?_⟩)
              simp only [nz1, nz2, nz3]
              refine wpAnyH_done (by kernel_rfl) ?_ _
              exact ⟨rfl, g215, rfl, hm217⟩
            · refine opd rfl rfl (m_call hm214 77 (.string (tx (fill_m ([]) 12))) rfl (run_fill rfl rfl rfl) (fill_any ([]) 12  _  (by first | omega | assumption | (simp; done) | (simp; omega) | (simp only [List.length_append, List.length_cons, List.length_nil]; omega) | (simp only [List.length_append, List.length_cons, List.length_nil] at *; omega) | decide) (by first | omega | assumption | (simp; done) | (simp; omega) | (simp only [List.length_append, List.length_cons, List.length_nil]; omega) | (simp only [List.length_append, List.length_cons, List.length_nil] at *; omega) | decide)) (fun w219 hm220 => ?_))
              have hf221 : (((fill_m ([]) 12).length : Nat) : Int) = 12 := fill_len ([]) 12 (by first | omega | (simp; done) | (simp; omega))
              refine ⟨hm220.at 0 rfl, ?_⟩
              simp only [nz1, nz2, nz3]
              refine one_ready 3 (by kernel_rfl) ?_
              refine opd rfl rfl (w_value 65 (.string (tx ([h.flag] : List UInt8))) rfl (r_stringR ([h.flag]) (by have h := Rs.blk (enc := eB) (l := ([h.flag] : List UInt8)) (hm220.at 2 rfl) rfl rfl eB_len (Nat.le_refl _); unfold Rs at h; rw [eB_map] at h; exact h) Tryd.underlying34 Tryd.underlying5 Tryd.underlying9 rfl rfl) ⟨hm220.at 0 rfl, ?_⟩)
              simp only [nz1, nz2, nz3]
              refine Sym.take_at 7 69 (.string (tx (([h.flag] : List UInt8) ++ (fill_m h.link 100)))) rfl rfl (by kernel_rfl) (by kernel_rfl) (by kernel_rfl) (fun _ _ _ h => nomatch h.1) rfl (fun _ hw => t_cat ([h.flag] : List UInt8) (fill_m h.link 100) (by first | omega | (simp; omega) | (simp only [List.length_append, List.length_cons, List.length_nil] at *; omega)) rfl rfl rfl) (hm220.at 0 rfl) ?_
              simp only [nz1, nz2, nz3]
              refine Sym.take_at 8 70 (.string (tx ((([h.flag] : List UInt8) ++ (fill_m h.link 100)) ++ [117, 115, 116, 97, 114, 0, 48, 48]))) rfl rfl (by kernel_rfl) (by kernel_rfl) (by kernel_rfl) (fun _ _ _ h => nomatch h.1) rfl (fun _ hw => t_cat (([h.flag] : List UInt8) ++ (fill_m h.link 100)) ([117, 115, 116, 97, 114, 0, 48, 48]) (by first | omega | (simp; omega) | (simp only [List.length_append, List.length_cons, List.length_nil] at *; omega)) rfl rfl rfl) (hm220.at 0 rfl) ?_
              simp only [nz1, nz2, nz3]
              refine Sym.take_at 10 72 (.string (tx (((([h.flag] : List UInt8) ++ (fill_m h.link 100)) ++ [117, 115, 116, 97, 114, 0, 48, 48]) ++ (fill_m ([]) 80)))) rfl rfl (by kernel_rfl) (by kernel_rfl) (by kernel_rfl) (fun _ _ _ h => nomatch h.1) rfl (fun _ hw => t_cat ((([h.flag] : List UInt8) ++ (fill_m h.link 100)) ++ [117, 115, 116, 97, 114, 0, 48, 48]) (fill_m ([]) 80) (by first | omega | (simp; omega) | (simp only [List.length_append, List.length_cons, List.length_nil] at *; omega)) rfl rfl rfl) (hm220.at 0 rfl) ?_
              simp only [nz1, nz2, nz3]
              refine Sym.take_at 14 76 (.string (tx ((((([h.flag] : List UInt8) ++ (fill_m h.link 100)) ++ [117, 115, 116, 97, 114, 0, 48, 48]) ++ (fill_m ([]) 80)) ++ (fill_m h.pfx 155)))) rfl rfl (by kernel_rfl) (by kernel_rfl) (by kernel_rfl) (fun _ _ _ h => nomatch h.1) rfl (fun _ hw => t_cat (((([h.flag] : List UInt8) ++ (fill_m h.link 100)) ++ [117, 115, 116, 97, 114, 0, 48, 48]) ++ (fill_m ([]) 80)) (fill_m h.pfx 155) (by first | omega | (simp; omega) | (simp only [List.length_append, List.length_cons, List.length_nil] at *; omega)) rfl rfl rfl) (hm220.at 0 rfl) ?_
              simp only [nz1, nz2, nz3]
              refine Sym.take_at 16 78 (.string (tx (((((([h.flag] : List UInt8) ++ (fill_m h.link 100)) ++ [117, 115, 116, 97, 114, 0, 48, 48]) ++ (fill_m ([]) 80)) ++ (fill_m h.pfx 155)) ++ (fill_m ([]) 12)))) rfl rfl (by kernel_rfl) (by kernel_rfl) (by kernel_rfl) (fun _ _ _ h => nomatch h.1) rfl (fun _ hw => t_cat ((((([h.flag] : List UInt8) ++ (fill_m h.link 100)) ++ [117, 115, 116, 97, 114, 0, 48, 48]) ++ (fill_m ([]) 80)) ++ (fill_m h.pfx 155)) (fill_m ([]) 12) (by first | omega | (simp; omega) | (simp only [List.length_append, List.length_cons, List.length_nil] at *; omega)) rfl rfl rfl) (hm220.at 0 rfl) ?_
              simp only [nz1, nz2, nz3]
              refine one_ready 17 (by kernel_rfl) ?_
              refine opd rfl rfl (w_value 9 (.string (tx (((((([h.flag] : List UInt8) ++ (fill_m h.link 100)) ++ [117, 115, 116, 97, 114, 0, 48, 48]) ++ (fill_m ([]) 80)) ++ (fill_m h.pfx 155)) ++ (fill_m ([]) 12)))) rfl (run_as rfl rfl) ⟨hm220.at 0 rfl, ?_⟩)
              simp only [nz1, nz2, nz3]
              refine wpAnyH_done (by kernel_rfl) ?_ _
              exact ⟨rfl, g215, rfl, hm220⟩
          · refine opd rfl rfl (m_call hm211 77 (.string (tx (fill_m ([]) 12))) rfl (run_fill rfl rfl rfl) (fill_any ([]) 12  _  (by first | omega | assumption | (simp; done) | (simp; omega) | (simp only [List.length_append, List.length_cons, List.length_nil]; omega) | (simp only [List.length_append, List.length_cons, List.length_nil] at *; omega) | decide) (by first | omega | assumption | (simp; done) | (simp; omega) | (simp only [List.length_append, List.length_cons, List.length_nil]; omega) | (simp only [List.length_append, List.length_cons, List.length_nil] at *; omega) | decide)) (fun w222 hm223 => ?_))
            have hf224 : (((fill_m ([]) 12).length : Nat) : Int) = 12 := fill_len ([]) 12 (by first | omega | (simp; done) | (simp; omega))
            refine ⟨hm223.at 0 rfl, ?_⟩
            simp only [nz1, nz2, nz3]
            refine one_ready 2 (by kernel_rfl) ?_
            refine opd rfl rfl (m_make (c := #[.int .u8 ((h.flag.toNat : Nat) : Int)]) (T := 5) (fun g => .slice (some ⟨g, 0, none⟩) 1 1) hm223 64 rfl (by unfold execOp; go_simp; try rfl) (fun g227 w225 hm226 => ?_))
            refine ⟨hm226.at 0 rfl, ?_⟩
            simp only [nz1, nz2, nz3]
            refine one_ready 3 (by kernel_rfl) ?_
            refine opd rfl rfl (w_value 65 (.string (tx ([h.flag] : List UInt8))) rfl (r_stringR ([h.flag]) (by have h := Rs.blk (enc := eB) (l := ([h.flag] : List UInt8)) (hm226.at 2 rfl) rfl rfl eB_len (Nat.le_refl _); unfold Rs at h; rw [eB_map] at h; exact h) Tryd.underlying34 Tryd.underlying5 Tryd.underlying9 rfl rfl) ⟨hm226.at 0 rfl, ?_⟩)
            simp only [nz1, nz2, nz3]
            refine Sym.take_at 7 69 (.string (tx (([h.flag] : List UInt8) ++ (fill_m h.link 100)))) rfl rfl (by kernel_rfl) (by kernel_rfl) (by kernel_rfl) (fun _ _ _ h => nomatch h.1) rfl (fun _ hw => t_cat ([h.flag] : List UInt8) (fill_m h.link 100) (by first | omega | (simp; omega) | (simp only [List.length_append, List.length_cons, List.length_nil] at *; omega)) rfl rfl rfl) (hm226.at 0 rfl) ?_
            simp only [nz1, nz2, nz3]
            refine Sym.take_at 8 70 (.string (tx ((([h.flag] : List UInt8) ++ (fill_m h.link 100)) ++ [117, 115, 116, 97, 114, 0, 48, 48]))) rfl rfl (by kernel_rfl) (by kernel_rfl) (by kernel_rfl) (fun _ _ _ h => nomatch h.1) rfl (fun _ hw => t_cat (([h.flag] : List UInt8) ++ (fill_m h.link 100)) ([117, 115, 116, 97, 114, 0, 48, 48]) (by first | omega | (simp; omega) | (simp only [List.length_append, List.length_cons, List.length_nil] at *; omega)) rfl rfl rfl) (hm226.at 0 rfl) ?_
            simp only [nz1, nz2, nz3]
            refine Sym.take_at 10 72 (.string (tx (((([h.flag] : List UInt8) ++ (fill_m h.link 100)) ++ [117, 115, 116, 97, 114, 0, 48, 48]) ++ (fill_m ([]) 80)))) rfl rfl (by kernel_rfl) (by kernel_rfl) (by kernel_rfl) (fun _ _ _ h => nomatch h.1) rfl (fun _ hw => t_cat ((([h.flag] : List UInt8) ++ (fill_m h.link 100)) ++ [117, 115, 116, 97, 114, 0, 48, 48]) (fill_m ([]) 80) (by first | omega | (simp; omega) | (simp only [List.length_append, List.length_cons, List.length_nil] at *; omega)) rfl rfl rfl) (hm226.at 0 rfl) ?_
            simp only [nz1, nz2, nz3]
            refine Sym.take_at 14 76 (.string (tx ((((([h.flag] : List UInt8) ++ (fill_m h.link 100)) ++ [117, 115, 116, 97, 114, 0, 48, 48]) ++ (fill_m ([]) 80)) ++ (fill_m h.pfx 155)))) rfl rfl (by kernel_rfl) (by kernel_rfl) (by kernel_rfl) (fun _ _ _ h => nomatch h.1) rfl (fun _ hw => t_cat (((([h.flag] : List UInt8) ++ (fill_m h.link 100)) ++ [117, 115, 116, 97, 114, 0, 48, 48]) ++ (fill_m ([]) 80)) (fill_m h.pfx 155) (by first | omega | (simp; omega) | (simp only [List.length_append, List.length_cons, List.length_nil] at *; omega)) rfl rfl rfl) (hm226.at 0 rfl) ?_
            simp only [nz1, nz2, nz3]
            refine Sym.take_at 16 78 (.string (tx (((((([h.flag] : List UInt8) ++ (fill_m h.link 100)) ++ [117, 115, 116, 97, 114, 0, 48, 48]) ++ (fill_m ([]) 80)) ++ (fill_m h.pfx 155)) ++ (fill_m ([]) 12)))) rfl rfl (by kernel_rfl) (by kernel_rfl) (by kernel_rfl) (fun _ _ _ h => nomatch h.1) rfl (fun _ hw => t_cat ((((([h.flag] : List UInt8) ++ (fill_m h.link 100)) ++ [117, 115, 116, 97, 114, 0, 48, 48]) ++ (fill_m ([]) 80)) ++ (fill_m h.pfx 155)) (fill_m ([]) 12) (by first | omega | (simp; omega) | (simp only [List.length_append, List.length_cons, List.length_nil] at *; omega)) rfl rfl rfl) (hm226.at 0 rfl) ?_
            simp only [nz1, nz2, nz3]
            refine one_ready 17 (by kernel_rfl) ?_
            refine opd rfl rfl (w_value 9 (.string (tx (((((([h.flag] : List UInt8) ++ (fill_m h.link 100)) ++ [117, 115, 116, 97, 114, 0, 48, 48]) ++ (fill_m ([]) 80)) ++ (fill_m h.pfx 155)) ++ (fill_m ([]) 12)))) rfl (run_as rfl rfl) ⟨hm226.at 0 rfl, ?_⟩)
            simp only [nz1, nz2, nz3]
            refine wpAnyH_done (by kernel_rfl) ?_ _
            exact ⟨rfl, g227, rfl, hm226⟩
  clear hm106
  rintro _ _ w228 ⟨rfl, g113, rfl, hm229⟩
  have hf230 : (((fill_m h.link 100).length : Nat) : Int) = 100 := fill_len h.link 100 (by first | omega | (simp; done) | (simp; omega))
  have hf231 : (((fill_m ([]) 80).length : Nat) : Int) = 80 := fill_len ([]) 80 (by first | omega | (simp; done) | (simp; omega))
  have hf232 : (((fill_m h.pfx 155).length : Nat) : Int) = 155 := fill_len h.pfx 155 (by first | omega | (simp; done) | (simp; omega))
  have hf233 : (((fill_m ([]) 12).length : Nat) : Int) = 12 := fill_len ([]) 12 (by first | omega | (simp; done) | (simp; omega))
  refine then_n (hK108 _ _ ?_)
  refine wp_seq_k (fun K234 hK234 => ?_)
  refine wp_region_lit ?_
  refine lvw 80 (.string (tx y39)) rfl rfl (run_mv rfl rfl) ?_
  simp only [nz1, nz2, nz3]
  refine lst rfl (m_call hm229 81 (.string (tx (fill_m ([]) 8))) rfl (run_fill rfl rfl rfl) (fill_any ([]) 8  _  (by first | omega | assumption | (simp; done) | (simp; omega) | (simp only [List.length_append, List.length_cons, List.length_nil]; omega) | (simp only [List.length_append, List.length_cons, List.length_nil] at *; omega) | decide) (by first | omega | assumption | (simp; done) | (simp; omega) | (simp only [List.length_append, List.length_cons, List.length_nil]; omega) | (simp only [List.length_append, List.length_cons, List.length_nil] at *; omega) | decide)) (fun w235 (hm236 : Mm none (fun _ => True) w w235 [.blk g4 #[.string (tx h.name), .int .i64 (h.mode), .int .i64 (h.uid), .int .i64 (h.gid), .int .i64 (h.size), .int .i64 (h.time), .int .u8 ((h.flag.toNat : Nat) : Int), .string (tx h.link), .string (tx h.pfx)] 23, .blk g25 #[.int .i64 (h.mode), .int .i64 (h.uid), .int .i64 (h.gid), .int .i64 (h.size), .int .i64 (h.time)] 51, .blk g113 #[.int .u8 ((h.flag.toNat : Nat) : Int)] 5]) => ?_))
  have hf237 : (((fill_m ([]) 8).length : Nat) : Int) = 8 := fill_len ([]) 8 (by first | omega | (simp; done) | (simp; omega))
  simp only [nz1, nz2, nz3]
  refine lvw 82 (.string (tx (y39 ++ (fill_m ([]) 8)))) rfl rfl (t_cat y39 (fill_m ([]) 8) (by first | omega | (simp; omega) | (simp only [List.length_append, List.length_cons, List.length_nil] at *; omega)) rfl rfl rfl) ?_
  simp only [nz1, nz2, nz3]
  refine lvw 83 (.string (tx (((((([h.flag] : List UInt8) ++ (fill_m h.link 100)) ++ [117, 115, 116, 97, 114, 0, 48, 48]) ++ (fill_m ([]) 80)) ++ (fill_m h.pfx 155)) ++ (fill_m ([]) 12)))) rfl rfl (run_mv rfl rfl) ?_
  simp only [nz1, nz2, nz3]
  refine lvw 84 (.string (tx ((y39 ++ (fill_m ([]) 8)) ++ (((((([h.flag] : List UInt8) ++ (fill_m h.link 100)) ++ [117, 115, 116, 97, 114, 0, 48, 48]) ++ (fill_m ([]) 80)) ++ (fill_m h.pfx 155)) ++ (fill_m ([]) 12))))) rfl rfl (t_cat (y39 ++ (fill_m ([]) 8)) (((((([h.flag] : List UInt8) ++ (fill_m h.link 100)) ++ [117, 115, 116, 97, 114, 0, 48, 48]) ++ (fill_m ([]) 80)) ++ (fill_m h.pfx 155)) ++ (fill_m ([]) 12)) (by first | omega | (simp; omega) | (simp only [List.length_append, List.length_cons, List.length_nil] at *; omega)) rfl rfl rfl) ?_
  simp only [nz1, nz2, nz3]
  refine lst rfl (m_call hm236 85 (.int .i64 ((hsum_m ((y39 ++ (fill_m ([]) 8)) ++ (((((([h.flag] : List UInt8) ++ (fill_m h.link 100)) ++ [117, 115, 116, 97, 114, 0, 48, 48]) ++ (fill_m ([]) 80)) ++ (fill_m h.pfx 155)) ++ (fill_m ([]) 12)))))) rfl (run_hsum rfl rfl) (hsum_any ((y39 ++ (fill_m ([]) 8)) ++ (((((([h.flag] : List UInt8) ++ (fill_m h.link 100)) ++ [117, 115, 116, 97, 114, 0, 48, 48]) ++ (fill_m ([]) 80)) ++ (fill_m h.pfx 155)) ++ (fill_m ([]) 12)))  _  ) (fun w238 (hm239 : Mm none (fun _ => True) w w238 [.blk g4 #[.string (tx h.name), .int .i64 (h.mode), .int .i64 (h.uid), .int .i64 (h.gid), .int .i64 (h.size), .int .i64 (h.time), .int .u8 ((h.flag.toNat : Nat) : Int), .string (tx h.link), .string (tx h.pfx)] 23, .blk g25 #[.int .i64 (h.mode), .int .i64 (h.uid), .int .i64 (h.gid), .int .i64 (h.size), .int .i64 (h.time)] 51, .blk g113 #[.int .u8 ((h.flag.toNat : Nat) : Int)] 5]) => ?_))
  have hf240 : 0 ≤ (hsum_m ((y39 ++ (fill_m ([]) 8)) ++ (((((([h.flag] : List UInt8) ++ (fill_m h.link 100)) ++ [117, 115, 116, 97, 114, 0, 48, 48]) ++ (fill_m ([]) 80)) ++ (fill_m h.pfx 155)) ++ (fill_m ([]) 12)))) ∧ (hsum_m ((y39 ++ (fill_m ([]) 8)) ++ (((((([h.flag] : List UInt8) ++ (fill_m h.link 100)) ++ [117, 115, 116, 97, 114, 0, 48, 48]) ++ (fill_m ([]) 80)) ++ (fill_m h.pfx 155)) ++ (fill_m ([]) 12)))) ≤ 131072 := hsum_rng ((y39 ++ (fill_m ([]) 8)) ++ (((((([h.flag] : List UInt8) ++ (fill_m h.link 100)) ++ [117, 115, 116, 97, 114, 0, 48, 48]) ++ (fill_m ([]) 80)) ++ (fill_m h.pfx 155)) ++ (fill_m ([]) 12)))
  simp only [nz1, nz2, nz3]
  refine lst rfl (m_call hm239 86 (.tuple #[.string (tx ((octal_m (hsum_m ((y39 ++ (fill_m ([]) 8)) ++ (((((([h.flag] : List UInt8) ++ (fill_m h.link 100)) ++ [117, 115, 116, 97, 114, 0, 48, 48]) ++ (fill_m ([]) 80)) ++ (fill_m h.pfx 155)) ++ (fill_m ([]) 12)))) 6).1)), .bool ((octal_m (hsum_m ((y39 ++ (fill_m ([]) 8)) ++ (((((([h.flag] : List UInt8) ++ (fill_m h.link 100)) ++ [117, 115, 116, 97, 114, 0, 48, 48]) ++ (fill_m ([]) 80)) ++ (fill_m h.pfx 155)) ++ (fill_m ([]) 12)))) 6).2)]) rfl (run_octal rfl rfl rfl) (octal_any (hsum_m ((y39 ++ (fill_m ([]) 8)) ++ (((((([h.flag] : List UInt8) ++ (fill_m h.link 100)) ++ [117, 115, 116, 97, 114, 0, 48, 48]) ++ (fill_m ([]) 80)) ++ (fill_m h.pfx 155)) ++ (fill_m ([]) 12)))) 6  _  (by first | omega | assumption | (simp; done) | (simp; omega) | (simp only [List.length_append, List.length_cons, List.length_nil]; omega) | (simp only [List.length_append, List.length_cons, List.length_nil] at *; omega) | decide)) (fun w241 (hm242 : Mm none (fun _ => True) w w241 [.blk g4 #[.string (tx h.name), .int .i64 (h.mode), .int .i64 (h.uid), .int .i64 (h.gid), .int .i64 (h.size), .int .i64 (h.time), .int .u8 ((h.flag.toNat : Nat) : Int), .string (tx h.link), .string (tx h.pfx)] 23, .blk g25 #[.int .i64 (h.mode), .int .i64 (h.uid), .int .i64 (h.gid), .int .i64 (h.size), .int .i64 (h.time)] 51, .blk g113 #[.int .u8 ((h.flag.toNat : Nat) : Int)] 5]) => ?_))
  have hf243 : (((octal_m (hsum_m ((y39 ++ (fill_m ([]) 8)) ++ (((((([h.flag] : List UInt8) ++ (fill_m h.link 100)) ++ [117, 115, 116, 97, 114, 0, 48, 48]) ++ (fill_m ([]) 80)) ++ (fill_m h.pfx 155)) ++ (fill_m ([]) 12)))) 6).1.length : Nat) : Int) = 6 := octal_len (hsum_m ((y39 ++ (fill_m ([]) 8)) ++ (((((([h.flag] : List UInt8) ++ (fill_m h.link 100)) ++ [117, 115, 116, 97, 114, 0, 48, 48]) ++ (fill_m ([]) 80)) ++ (fill_m h.pfx 155)) ++ (fill_m ([]) 12)))) 6 (by omega) (by omega) (by omega)
  simp only [nz1, nz2, nz3]
  refine lvw 79 (.tuple #[.string (tx ((octal_m (hsum_m ((y39 ++ (fill_m ([]) 8)) ++ (((((([h.flag] : List UInt8) ++ (fill_m h.link 100)) ++ [117, 115, 116, 97, 114, 0, 48, 48]) ++ (fill_m ([]) 80)) ++ (fill_m h.pfx 155)) ++ (fill_m ([]) 12)))) 6).1)), .bool ((octal_m (hsum_m ((y39 ++ (fill_m ([]) 8)) ++ (((((([h.flag] : List UInt8) ++ (fill_m h.link 100)) ++ [117, 115, 116, 97, 114, 0, 48, 48]) ++ (fill_m ([]) 80)) ++ (fill_m h.pfx 155)) ++ (fill_m ([]) 12)))) 6).2)]) rfl rfl (run_mv rfl rfl) ?_
  simp only [nz1, nz2, nz3]
  refine lvw 87 (.string (tx ((octal_m (hsum_m ((y39 ++ (fill_m ([]) 8)) ++ (((((([h.flag] : List UInt8) ++ (fill_m h.link 100)) ++ [117, 115, 116, 97, 114, 0, 48, 48]) ++ (fill_m ([]) 80)) ++ (fill_m h.pfx 155)) ++ (fill_m ([]) 12)))) 6).1))) rfl rfl (run_ex rfl rfl rfl) ?_
  simp only [nz1, nz2, nz3]
  refine lvw 88 (.bool ((octal_m (hsum_m ((y39 ++ (fill_m ([]) 8)) ++ (((((([h.flag] : List UInt8) ++ (fill_m h.link 100)) ++ [117, 115, 116, 97, 114, 0, 48, 48]) ++ (fill_m ([]) 80)) ++ (fill_m h.pfx 155)) ++ (fill_m ([]) 12)))) 6).2)) rfl rfl (run_ex rfl rfl rfl) ?_
  simp only [nz1, nz2, nz3]
  refine lvw 10 (.string (tx ((octal_m (hsum_m ((y39 ++ (fill_m ([]) 8)) ++ (((((([h.flag] : List UInt8) ++ (fill_m h.link 100)) ++ [117, 115, 116, 97, 114, 0, 48, 48]) ++ (fill_m ([]) 80)) ++ (fill_m h.pfx 155)) ++ (fill_m ([]) 12)))) 6).1))) rfl rfl (run_as rfl rfl) ?_
  simp only [nz1, nz2, nz3]
  refine lvw 11 (.bool ((octal_m (hsum_m ((y39 ++ (fill_m ([]) 8)) ++ (((((([h.flag] : List UInt8) ++ (fill_m h.link 100)) ++ [117, 115, 116, 97, 114, 0, 48, 48]) ++ (fill_m ([]) 80)) ++ (fill_m h.pfx 155)) ++ (fill_m ([]) 12)))) 6).2)) rfl rfl (run_as rfl rfl) ?_
  simp only [nz1, nz2, nz3]
  refine wpList_nil ?_
  refine then_n (hK234 _ _ ?_)
  refine wp_seq_k (fun K244 hK244 => ?_)
  refine wp_region_lit ?_
  refine lvw 89 (.string (tx y39)) rfl rfl (run_mv rfl rfl) ?_
  simp only [nz1, nz2, nz3]
  refine lvw 90 (.string (tx ((octal_m (hsum_m ((y39 ++ (fill_m ([]) 8)) ++ (((((([h.flag] : List UInt8) ++ (fill_m h.link 100)) ++ [117, 115, 116, 97, 114, 0, 48, 48]) ++ (fill_m ([]) 80)) ++ (fill_m h.pfx 155)) ++ (fill_m ([]) 12)))) 6).1))) rfl rfl (run_mv rfl rfl) ?_
  simp only [nz1, nz2, nz3]
  refine lvw 91 (.string (tx (y39 ++ (octal_m (hsum_m ((y39 ++ (fill_m ([]) 8)) ++ (((((([h.flag] : List UInt8) ++ (fill_m h.link 100)) ++ [117, 115, 116, 97, 114, 0, 48, 48]) ++ (fill_m ([]) 80)) ++ (fill_m h.pfx 155)) ++ (fill_m ([]) 12)))) 6).1))) rfl rfl (t_cat y39 ((octal_m (hsum_m ((y39 ++ (fill_m ([]) 8)) ++ (((((([h.flag] : List UInt8) ++ (fill_m h.link 100)) ++ [117, 115, 116, 97, 114, 0, 48, 48]) ++ (fill_m ([]) 80)) ++ (fill_m h.pfx 155)) ++ (fill_m ([]) 12)))) 6).1) (by first | omega | (simp; omega) | (simp only [List.length_append, List.length_cons, List.length_nil] at *; omega)) rfl rfl rfl) ?_
  simp only [nz1, nz2, nz3]
  refine lvw 92 (.string (tx ((y39 ++ (octal_m (hsum_m ((y39 ++ (fill_m ([]) 8)) ++ (((((([h.flag] : List UInt8) ++ (fill_m h.link 100)) ++ [117, 115, 116, 97, 114, 0, 48, 48]) ++ (fill_m ([]) 80)) ++ (fill_m h.pfx 155)) ++ (fill_m ([]) 12)))) 6).1) ++ [0, 32]))) rfl rfl (t_cat (y39 ++ (octal_m (hsum_m ((y39 ++ (fill_m ([]) 8)) ++ (((((([h.flag] : List UInt8) ++ (fill_m h.link 100)) ++ [117, 115, 116, 97, 114, 0, 48, 48]) ++ (fill_m ([]) 80)) ++ (fill_m h.pfx 155)) ++ (fill_m ([]) 12)))) 6).1) ([0, 32]) (by first | omega | (simp; omega) | (simp only [List.length_append, List.length_cons, List.length_nil] at *; omega)) rfl rfl rfl) ?_
  simp only [nz1, nz2, nz3]
  refine lvw 93 (.string (tx (((((([h.flag] : List UInt8) ++ (fill_m h.link 100)) ++ [117, 115, 116, 97, 114, 0, 48, 48]) ++ (fill_m ([]) 80)) ++ (fill_m h.pfx 155)) ++ (fill_m ([]) 12)))) rfl rfl (run_mv rfl rfl) ?_
  simp only [nz1, nz2, nz3]
  refine lvw 94 (.string (tx (((y39 ++ (octal_m (hsum_m ((y39 ++ (fill_m ([]) 8)) ++ (((((([h.flag] : List UInt8) ++ (fill_m h.link 100)) ++ [117, 115, 116, 97, 114, 0, 48, 48]) ++ (fill_m ([]) 80)) ++ (fill_m h.pfx 155)) ++ (fill_m ([]) 12)))) 6).1) ++ [0, 32]) ++ (((((([h.flag] : List UInt8) ++ (fill_m h.link 100)) ++ [117, 115, 116, 97, 114, 0, 48, 48]) ++ (fill_m ([]) 80)) ++ (fill_m h.pfx 155)) ++ (fill_m ([]) 12))))) rfl rfl (t_cat ((y39 ++ (octal_m (hsum_m ((y39 ++ (fill_m ([]) 8)) ++ (((((([h.flag] : List UInt8) ++ (fill_m h.link 100)) ++ [117, 115, 116, 97, 114, 0, 48, 48]) ++ (fill_m ([]) 80)) ++ (fill_m h.pfx 155)) ++ (fill_m ([]) 12)))) 6).1) ++ [0, 32]) (((((([h.flag] : List UInt8) ++ (fill_m h.link 100)) ++ [117, 115, 116, 97, 114, 0, 48, 48]) ++ (fill_m ([]) 80)) ++ (fill_m h.pfx 155)) ++ (fill_m ([]) 12)) (by first | omega | (simp; omega) | (simp only [List.length_append, List.length_cons, List.length_nil] at *; omega)) rfl rfl rfl) ?_
  simp only [nz1, nz2, nz3]
  refine lvw 2 (.string (tx (((y39 ++ (octal_m (hsum_m ((y39 ++ (fill_m ([]) 8)) ++ (((((([h.flag] : List UInt8) ++ (fill_m h.link 100)) ++ [117, 115, 116, 97, 114, 0, 48, 48]) ++ (fill_m ([]) 80)) ++ (fill_m h.pfx 155)) ++ (fill_m ([]) 12)))) 6).1) ++ [0, 32]) ++ (((((([h.flag] : List UInt8) ++ (fill_m h.link 100)) ++ [117, 115, 116, 97, 114, 0, 48, 48]) ++ (fill_m ([]) 80)) ++ (fill_m h.pfx 155)) ++ (fill_m ([]) 12))))) rfl rfl (run_as rfl rfl) ?_
  simp only [nz1, nz2, nz3]
  refine lvw 3 (.int .i64 0) rfl rfl (run_as rfl rfl) ?_
  simp only [nz1, nz2, nz3]
  refine wpList_nil ?_
  refine then_n (hK244 _ _ ?_)
  refine wp_ret ?_
  have he245 : hencode_m h = ((((y39 ++ (octal_m (hsum_m ((y39 ++ (fill_m ([]) 8)) ++ (((((([h.flag] : List UInt8) ++ (fill_m h.link 100)) ++ [117, 115, 116, 97, 114, 0, 48, 48]) ++ (fill_m ([]) 80)) ++ (fill_m h.pfx 155)) ++ (fill_m ([]) 12)))) 6).1) ++ [0, 32]) ++ (((((([h.flag] : List UInt8) ++ (fill_m h.link 100)) ++ [117, 115, 116, 97, 114, 0, 48, 48]) ++ (fill_m ([]) 80)) ++ (fill_m h.pfx 155)) ++ (fill_m ([]) 12))), 0) := (hq107.trans (show hencode_m_k0 h y39 y40 = ((((y39 ++ (octal_m (hsum_m ((y39 ++ (fill_m ([]) 8)) ++ (((((([h.flag] : List UInt8) ++ (fill_m h.link 100)) ++ [117, 115, 116, 97, 114, 0, 48, 48]) ++ (fill_m ([]) 80)) ++ (fill_m h.pfx 155)) ++ (fill_m ([]) 12)))) 6).1) ++ [0, 32]) ++ (((((([h.flag] : List UInt8) ++ (fill_m h.link 100)) ++ [117, 115, 116, 97, 114, 0, 48, 48]) ++ (fill_m ([]) 80)) ++ (fill_m h.pfx 155)) ++ (fill_m ([]) 12))), 0) from by unfold hencode_m_k0; rfl))
  exact ⟨rfl, .tuple #[.string (tx (((y39 ++ (octal_m (hsum_m ((y39 ++ (fill_m ([]) 8)) ++ (((((([h.flag] : List UInt8) ++ (fill_m h.link 100)) ++ [117, 115, 116, 97, 114, 0, 48, 48]) ++ (fill_m ([]) 80)) ++ (fill_m h.pfx 155)) ++ (fill_m ([]) 12)))) 6).1) ++ [0, 32]) ++ (((((([h.flag] : List UInt8) ++ (fill_m h.link 100)) ++ [117, 115, 116, 97, 114, 0, 48, 48]) ++ (fill_m ([]) 80)) ++ (fill_m h.pfx 155)) ++ (fill_m ([]) 12)))), .int .i64 0], res_tt rfl rfl rfl, ⟨by (rw [he245]; try rfl), hm242.below⟩⟩
theorem run_hencode {o : Oper} {a : Act} {w : World} {x0 : Operand} {v0 : Value} (ho : o.op = .call { callee := .value (.func 14), args := #[x0], argTypes := #[23] }) (h0 : a.eval x0 = v0) :
    (execOp a.eval o).run Tryd.prog w = .ok (.enter 14 #[v0]) w := by
  unfold execOp
  simp only [ho]
  have hf : a.eval (.func 14) = .func (.func 14) #[] #[] := rfl
  generalize a.eval = f at *
  go_simp
end Go.Proofs.YtglnifckngcpkaaDoor.Hd
