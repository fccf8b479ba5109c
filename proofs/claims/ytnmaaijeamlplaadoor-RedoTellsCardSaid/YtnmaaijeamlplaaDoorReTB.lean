/- Layer 16: how many sectors stand behind the log. Layer 16: RedoTells. Layer 16: RedoTells: true. -/
import Derived.Test.YtnmaaijeamlplaaDoorReX
import Derived.Test.YtnmaaijeamlplaaDoorRfH
set_option linter.unusedVariables false
namespace Go.Proofs.YtnmaaijeamlplaaDoor.Bk
open Go.RowKit Go.Proofs.YtnmaaijeamlplaaDoor.Mem
theorem home_nl (d : Dk) : ∀ k (l : List (List UInt8)) (i : Int), l.length ≤ i → i ≤ d.safe.length → ((((fin (home_m_l0 d k (l, i)) (fun r => r) (fun zz => home_m_k0 d zz.1 zz.2)).1.length : Nat)) : Int) ≤ d.safe.length
  | 0, l, i, h, hi => by show ((l.length : Nat) : Int) ≤ _; omega
  | k + 1, l, i, h, hi => by
    show ((((fin (home_m_b0 d (home_m_l0 d k) l i) (fun r => r) (fun zz => home_m_k0 d zz.1 zz.2)).1.length : Nat)) : Int) ≤ d.safe.length
    unfold home_m_b0
    split
    · split
      · show ((([] : List (List UInt8)).length : Nat) : Int) ≤ _
        rw [List.length_nil]
        omega
      · exact home_nl d k _ _ (by rw [List.length_append, List.length_singleton]; omega) (by omega)
    · show ((l.length : Nat) : Int) ≤ _
      omega
theorem home_n (d : Dk) : (home_m d).1.length ≤ d.safe.length := by
  unfold home_m
  split
  · exact Nat.zero_le _
  · have := home_nl d (((d.safe.length : Int) - log_m d).toNat + 1) [] (log_m d) (by rw [log_is]; simp only [List.length_nil]; omega) (by rw [log_is]; omega)
    omega
theorem rhome_n (d : Dk) : (rhome_m d).1.length ≤ d.safe.length := by rw [rhome_eq]; exact home_n d
theorem samel_l (a : List (List UInt8)) : ∀ k i, fin (samel_m_l0 a a k i) (fun r => r) (fun zz => samel_m_k0 a a zz) = true
  | 0, i => rfl
  | k + 1, i => by
    show fin (samel_m_b0 a a (samel_m_l0 a a k) i) _ _ = _
    unfold samel_m_b0
    split
    · rw [if_neg (fun c => c rfl)]
      exact samel_l a k (i + 1)
    · rfl
theorem samel_self (a : List (List UInt8)) : samel_m a a = true := by
  unfold samel_m
  rw [if_neg (fun c => c rfl)]
  exact samel_l a _ _
end Go.Proofs.YtnmaaijeamlplaaDoor.Bk

namespace Go.Proofs.YtnmaaijeamlplaaDoor.Bk
open Go.RowKit
open Go.Proofs.YtnmaaijeamlplaaDoor.Sym Go.Proofs.YtnmaaijeamlplaaDoor.Mem
open Go.Proofs.YtnmaaijeamlplaaDoor.Sx hiding Mm m_alloc m_store m_put m_call m_callx m_make m_append r_string r_ixS
set_option linter.unusedVariables false
attribute [local irreducible] right_m rright_m ready_m rready_m copied_m burn_m put_m get_m flush_m spent_m rput_m rget_m rflush_m wrote_m blank_m rnew_m same_m
attribute [local irreducible] number_m value_m fill_m beginning_m log_m fits_m lists_m epoch_m
attribute [local irreducible] home_m putall_m
attribute [local irreducible] putfl_m body_m rise_m sized_m current_m join_m sum_m
attribute [local irreducible] format_m rend_m bring_m
attribute [local irreducible] commit_m
attribute [local irreducible] rlog_m four_m eight_m rread_m rfull_m
attribute [local irreducible] rhead_m rlists_m rfits_m repoch_m rhome_m
attribute [local irreducible] sector_m samel_m awake_m
attribute [local irreducible] wpList Oper.wp

def tells_m (d : Dk) (n : Int) : Bool :=
  if awake_m = true then
    if (log_m d) = (rlog_m d) then
      if (epoch_m d).1 = (repoch_m d).1 then
        if (((epoch_m d).2) == ((repoch_m d).2)) = true then
          if ((decide (((0 : Int) ≤ n ∧ (n : Int) ≤ (((d.safe).length : Nat) : Int) ∧ ((n : Int) + 60) / 61 + n + 2 ≤ (((((d.safe).length / 4 : Nat)) : Int))))) == (rfits_m d n)) = true then
            if (samel_m ((home_m d).1) ((rhome_m d).1)) = true then
              (decide ((home_m d).2 = (rhome_m d).2))
            else
              false
          else
            false
        else
          false
      else
        false
    else
      false
  else
    false

set_option maxHeartbeats 4000000 in
set_option maxRecDepth 100000 in
theorem tells_any (d : Dk) (n : Int) (dv0 : Value) (dv1 : Value) (w : World) (hd : DkR d dv0 dv1 w) (hT : Laid w) (hp0 : d.safe.length ≤ 8796093022208) (hp1 : d.loose.length ≤ 5864062014804) : Calls Tryd.prog 3 #[.agg #[dv0, dv1, .int .i64 (d.fuse), .bool (d.down)], .int .i64 (n)] w (fun e w' => e = .returned (.bool ((tells_m d n))) ∧ Below w.heap.size w w') := by
  go_enter Tryd.func3, Tryd.ntmps3
  have hm00 := Mm.nil none (fun _ => True) w
  obtain ⟨Fd, hm01⟩ : ∃ Fd, Mm none (fun _ => True) w w [.see (DkR d dv0 dv1) Fd] := hm00.come (DkR_all hd)
  have hm0 := hm01
  refine wp_seq_k (fun K1 hK1 => ?_)
  refine wp_region_lit ?_
  refine lst rfl (m_alloc (c := #[dv0, dv1, .int .i64 (d.fuse), .bool (d.down)]) (T := 25) hm0 2 rfl (run_box rfl rfl) (fun g4 w2 (hm3 : Mm none (fun _ => True) w w2 [.see (DkR d dv0 dv1) Fd, .blk g4 #[dv0, dv1, .int .i64 (d.fuse), .bool (d.down)] 25]) => ?_))
  simp only [nz1, nz2, nz3]
  refine lvw 4 (.bool false) rfl rfl (run_as rfl rfl) ?_
  simp only [nz1, nz2, nz3]
  refine wpList_nil ?_
  refine then_n (hK1 _ _ ?_)
  refine wp_seq_k (fun K5 hK5 => ?_)
  refine wp_region_lit ?_
  refine lvw 14 (.agg #[dv0, dv1, .int .i64 (d.fuse), .bool (d.down)]) rfl rfl (r_whole (hm3.at 1 rfl) Tryd.underlying25 rfl (by exact sz_25) rfl rfl) ?_
  simp only [nz1, nz2, nz3]
  refine lst rfl (m_call hm3 15 (.tuple #[.int .i64 ((epoch_m d).1), .bool ((epoch_m d).2)]) rfl (run_epoch rfl rfl) (epoch_any d dv0 dv1 _ (hm3.see 0 rfl) (by first | omega | assumption | (simp; done) | (simp; omega) | (simp only [List.length_append, List.length_cons, List.length_nil]; omega) | (simp only [List.length_append, List.length_cons, List.length_nil] at *; omega) | decide) (by first | omega | assumption | (simp; done) | (simp; omega) | (simp only [List.length_append, List.length_cons, List.length_nil]; omega) | (simp only [List.length_append, List.length_cons, List.length_nil] at *; omega) | decide)) (fun w6 (hm7 : Mm none (fun _ => True) w w6 [.see (DkR d dv0 dv1) Fd, .blk g4 #[dv0, dv1, .int .i64 (d.fuse), .bool (d.down)] 25]) => ?_))
  simp only [nz1, nz2, nz3]
  refine lvw 13 (.tuple #[.int .i64 ((epoch_m d).1), .bool ((epoch_m d).2)]) rfl rfl (run_mv rfl rfl) ?_
  simp only [nz1, nz2, nz3]
  refine lvw 16 (.int .i64 ((epoch_m d).1)) rfl rfl (run_ex rfl rfl rfl) ?_
  simp only [nz1, nz2, nz3]
  refine lvw 17 (.bool ((epoch_m d).2)) rfl rfl (run_ex rfl rfl rfl) ?_
  simp only [nz1, nz2, nz3]
  refine lvw 5 (.int .i64 ((epoch_m d).1)) rfl rfl (run_as rfl rfl) ?_
  simp only [nz1, nz2, nz3]
  refine lvw 6 (.bool ((epoch_m d).2)) rfl rfl (run_as rfl rfl) ?_
  simp only [nz1, nz2, nz3]
  refine wpList_nil ?_
  refine then_n (hK5 _ _ ?_)
  refine wp_seq_k (fun K8 hK8 => ?_)
  refine wp_region_lit ?_
  refine lvw 19 (.agg #[dv0, dv1, .int .i64 (d.fuse), .bool (d.down)]) rfl rfl (r_whole (hm7.at 1 rfl) Tryd.underlying25 rfl (by exact sz_25) rfl rfl) ?_
  simp only [nz1, nz2, nz3]
  refine lst rfl (m_call hm7 20 (.tuple #[.int .i64 ((repoch_m d).1), .bool ((repoch_m d).2)]) rfl (run_repoch rfl rfl) (repoch_any d dv0 dv1 _ (hm7.see 0 rfl) (by first | omega | assumption | (simp; done) | (simp; omega) | (simp only [List.length_append, List.length_cons, List.length_nil]; omega) | (simp only [List.length_append, List.length_cons, List.length_nil] at *; omega) | decide) (by first | omega | assumption | (simp; done) | (simp; omega) | (simp only [List.length_append, List.length_cons, List.length_nil]; omega) | (simp only [List.length_append, List.length_cons, List.length_nil] at *; omega) | decide)) (fun w9 (hm10 : Mm none (fun _ => True) w w9 [.see (DkR d dv0 dv1) Fd, .blk g4 #[dv0, dv1, .int .i64 (d.fuse), .bool (d.down)] 25]) => ?_))
  simp only [nz1, nz2, nz3]
  refine lvw 18 (.tuple #[.int .i64 ((repoch_m d).1), .bool ((repoch_m d).2)]) rfl rfl (run_mv rfl rfl) ?_
  simp only [nz1, nz2, nz3]
  refine lvw 21 (.int .i64 ((repoch_m d).1)) rfl rfl (run_ex rfl rfl rfl) ?_
  simp only [nz1, nz2, nz3]
  refine lvw 22 (.bool ((repoch_m d).2)) rfl rfl (run_ex rfl rfl rfl) ?_
  simp only [nz1, nz2, nz3]
  refine lvw 7 (.int .i64 ((repoch_m d).1)) rfl rfl (run_as rfl rfl) ?_
  simp only [nz1, nz2, nz3]
  refine lvw 8 (.bool ((repoch_m d).2)) rfl rfl (run_as rfl rfl) ?_
  simp only [nz1, nz2, nz3]
  refine wpList_nil ?_
  refine then_n (hK8 _ _ ?_)
  refine wp_seq_k (fun K11 hK11 => ?_)
  refine wp_region_lit ?_
  refine lvw 24 (.agg #[dv0, dv1, .int .i64 (d.fuse), .bool (d.down)]) rfl rfl (r_whole (hm10.at 1 rfl) Tryd.underlying25 rfl (by exact sz_25) rfl rfl) ?_
  simp only [nz1, nz2, nz3]
  refine lst rfl (m_callx hm10 25 rfl (run_home rfl rfl) (home_any d dv0 dv1 (seeS _) _ (hm10.from 0 rfl) (by first | omega | assumption | (simp; done) | (simp; omega) | (simp only [List.length_append, List.length_cons, List.length_nil]; omega) | (simp only [List.length_append, List.length_cons, List.length_nil] at *; omega) | decide) (by first | omega | assumption | (simp; done) | (simp; omega) | (simp only [List.length_append, List.length_cons, List.length_nil]; omega) | (simp only [List.length_append, List.length_cons, List.length_nil] at *; omega) | decide)) (fun vv17 w12 hR18 hb19 hm13 => ?_))
  obtain ⟨v14, rfl, hg20⟩ := hR18
  obtain ⟨F16, hm21⟩ : ∃ F16, Mm none (fun _ => True) w w12 [.see (DkR d dv0 dv1) Fd, .blk g4 #[dv0, dv1, .int .i64 (d.fuse), .bool (d.down)] 25, .see (Rs eS 1 ((home_m d).1) v14) F16] := Mm.tookS hm10 hb19 hg20
  clear hm13 hg20 hb19
  have hf22 : (home_m d).1.length ≤ d.safe.length := home_n d
  simp only [nz1, nz2, nz3]
  refine lvw 23 (.tuple #[v14, .int .i64 ((home_m d).2)]) rfl rfl (run_mv rfl rfl) ?_
  simp only [nz1, nz2, nz3]
  refine lvw 26 (v14) rfl rfl (run_ex rfl rfl rfl) ?_
  simp only [nz1, nz2, nz3]
  refine lvw 27 (.int .i64 ((home_m d).2)) rfl rfl (run_ex rfl rfl rfl) ?_
  simp only [nz1, nz2, nz3]
  refine lvw 9 (v14) rfl rfl (run_as rfl rfl) ?_
  simp only [nz1, nz2, nz3]
  refine lvw 10 (.int .i64 ((home_m d).2)) rfl rfl (run_as rfl rfl) ?_
  simp only [nz1, nz2, nz3]
  refine wpList_nil ?_
  refine then_n (hK11 _ _ ?_)
  refine wp_seq_k (fun K23 hK23 => ?_)
  refine wp_region_lit ?_
  refine lvw 29 (.agg #[dv0, dv1, .int .i64 (d.fuse), .bool (d.down)]) rfl rfl (r_whole (hm21.at 1 rfl) Tryd.underlying25 rfl (by exact sz_25) rfl rfl) ?_
  simp only [nz1, nz2, nz3]
  refine lst rfl (m_callx hm21 30 rfl (run_rhome rfl rfl) (rhome_any d dv0 dv1 (seeS _) _ (hm21.from 0 rfl) (by first | omega | assumption | (simp; done) | (simp; omega) | (simp only [List.length_append, List.length_cons, List.length_nil]; omega) | (simp only [List.length_append, List.length_cons, List.length_nil] at *; omega) | decide) (by first | omega | assumption | (simp; done) | (simp; omega) | (simp only [List.length_append, List.length_cons, List.length_nil]; omega) | (simp only [List.length_append, List.length_cons, List.length_nil] at *; omega) | decide)) (fun vv29 w24 hR30 hb31 hm25 => ?_))
  obtain ⟨v26, rfl, hg32⟩ := hR30
  obtain ⟨F28, hm33⟩ : ∃ F28, Mm none (fun _ => True) w w24 [.see (DkR d dv0 dv1) Fd, .blk g4 #[dv0, dv1, .int .i64 (d.fuse), .bool (d.down)] 25, .see (Rs eS 1 ((home_m d).1) v14) F16, .see (Rs eS 1 ((rhome_m d).1) v26) F28] := Mm.tookS hm21 hb31 hg32
  clear hm25 hg32 hb31
  have hf34 : (rhome_m d).1.length ≤ d.safe.length := rhome_n d
  simp only [nz1, nz2, nz3]
  refine lvw 28 (.tuple #[v26, .int .i64 ((rhome_m d).2)]) rfl rfl (run_mv rfl rfl) ?_
  simp only [nz1, nz2, nz3]
  refine lvw 31 (v26) rfl rfl (run_ex rfl rfl rfl) ?_
  simp only [nz1, nz2, nz3]
  refine lvw 32 (.int .i64 ((rhome_m d).2)) rfl rfl (run_ex rfl rfl rfl) ?_
  simp only [nz1, nz2, nz3]
  refine lvw 11 (v26) rfl rfl (run_as rfl rfl) ?_
  simp only [nz1, nz2, nz3]
  refine lvw 12 (.int .i64 ((rhome_m d).2)) rfl rfl (run_as rfl rfl) ?_
  simp only [nz1, nz2, nz3]
  refine wpList_nil ?_
  refine then_n (hK23 _ _ ?_)
  refine wp_seq_k (fun K35 hK35 => ?_)
  have hm36 := hm33.drew
  refine wp_region_held_drew (S := fun w' => Mem.Blk w' g4 (#[dv0, dv1, .int .i64 (d.fuse), .bool (d.down)]) 25) (by kernel_rfl) (hm36.at 1 rfl) (fun _ => ?_)
  generalize w24.drew = w37 at *
  refine one_ready 0 (by kernel_rfl) ?_
  refine opd rfl (wanted_none rfl) (m_call hm36 33 (.bool (awake_m)) rfl (run_awake rfl) (awake_any   _  (Laid.below hT hm36.below) ) (fun w38 (hm39 : Mm none (fun _ => True) w w38 [.see (DkR d dv0 dv1) Fd, .blk g4 #[dv0, dv1, .int .i64 (d.fuse), .bool (d.down)] 25, .see (Rs eS 1 ((home_m d).1) v14) F16, .see (Rs eS 1 ((rhome_m d).1) v26) F28]) => ?_))
  refine ⟨hm39.at 1 rfl, ?_⟩
  simp only [nz1, nz2, nz3]
  by_cases hs40 : awake_m = true
  rotate_left
  · rw [(Bool.eq_false_iff.2 hs40 : awake_m = false)]
    refine tk 1 34 (.bool false) rfl rfl (fun _ hw => run_mv rfl rfl) (hm39.at 1 rfl) ?_
    simp only [nz1, nz2, nz3]
    refine skx 2 35 rfl rfl rfl (hm39.at 1 rfl) ?_
    simp only [nz1, nz2, nz3]
    refine skx 3 36 rfl rfl rfl (hm39.at 1 rfl) ?_
    simp only [nz1, nz2, nz3]
    refine skx 4 37 rfl rfl rfl (hm39.at 1 rfl) ?_
    simp only [nz1, nz2, nz3]
    refine skx 5 38 rfl rfl rfl (hm39.at 1 rfl) ?_
    simp only [nz1, nz2, nz3]
    refine skx 6 39 rfl rfl rfl (hm39.at 1 rfl) ?_
    simp only [nz1, nz2, nz3]
    refine tk 7 40 (.bool false) rfl rfl (fun _ hw => run_pickf rfl rfl rfl) (hm39.at 1 rfl) ?_
    simp only [nz1, nz2, nz3]
    refine tk 8 41 (.bool false) rfl rfl (fun _ hw => run_mv rfl rfl) (hm39.at 1 rfl) ?_
    simp only [nz1, nz2, nz3]
    refine skx 9 42 rfl rfl rfl (hm39.at 1 rfl) ?_
    simp only [nz1, nz2, nz3]
    refine skx 10 43 rfl rfl rfl (hm39.at 1 rfl) ?_
    simp only [nz1, nz2, nz3]
    refine skx 11 44 rfl rfl rfl (hm39.at 1 rfl) ?_
    simp only [nz1, nz2, nz3]
    refine tk 12 45 (.bool false) rfl rfl (fun _ hw => run_pickf rfl rfl rfl) (hm39.at 1 rfl) ?_
    simp only [nz1, nz2, nz3]
    refine tk 13 46 (.bool false) rfl rfl (fun _ hw => run_mv rfl rfl) (hm39.at 1 rfl) ?_
    simp only [nz1, nz2, nz3]
    refine skx 14 47 rfl rfl rfl (hm39.at 1 rfl) ?_
    simp only [nz1, nz2, nz3]
    refine skx 15 48 rfl rfl rfl (hm39.at 1 rfl) ?_
    simp only [nz1, nz2, nz3]
    refine skx 16 49 rfl rfl rfl (hm39.at 1 rfl) ?_
    simp only [nz1, nz2, nz3]
    refine tk 17 50 (.bool false) rfl rfl (fun _ hw => run_pickf rfl rfl rfl) (hm39.at 1 rfl) ?_
    simp only [nz1, nz2, nz3]
    refine tk 18 51 (.bool false) rfl rfl (fun _ hw => run_mv rfl rfl) (hm39.at 1 rfl) ?_
    simp only [nz1, nz2, nz3]
    refine skx 19 52 rfl rfl rfl (hm39.at 1 rfl) ?_
    simp only [nz1, nz2, nz3]
    refine skx 20 53 rfl rfl rfl (hm39.at 1 rfl) ?_
    simp only [nz1, nz2, nz3]
    refine skx 21 54 rfl rfl rfl (hm39.at 1 rfl) ?_
    simp only [nz1, nz2, nz3]
    refine skx 22 55 rfl rfl rfl (hm39.at 1 rfl) ?_
    simp only [nz1, nz2, nz3]
    refine skx 23 56 rfl rfl rfl (hm39.at 1 rfl) ?_
    simp only [nz1, nz2, nz3]
    refine skx 24 57 rfl rfl rfl (hm39.at 1 rfl) ?_
    simp only [nz1, nz2, nz3]
    refine skx 25 58 rfl rfl rfl (hm39.at 1 rfl) ?_
    simp only [nz1, nz2, nz3]
    refine tk 26 59 (.bool false) rfl rfl (fun _ hw => run_pickf rfl rfl rfl) (hm39.at 1 rfl) ?_
    simp only [nz1, nz2, nz3]
    refine tk 27 60 (.bool false) rfl rfl (fun _ hw => run_mv rfl rfl) (hm39.at 1 rfl) ?_
    simp only [nz1, nz2, nz3]
    refine skx 28 61 rfl rfl rfl (hm39.at 1 rfl) ?_
    simp only [nz1, nz2, nz3]
    refine skx 29 62 rfl rfl rfl (hm39.at 1 rfl) ?_
    simp only [nz1, nz2, nz3]
    refine skx 30 63 rfl rfl rfl (hm39.at 1 rfl) ?_
    simp only [nz1, nz2, nz3]
    refine tk 31 64 (.bool false) rfl rfl (fun _ hw => run_pickf rfl rfl rfl) (hm39.at 1 rfl) ?_
    simp only [nz1, nz2, nz3]
    refine tk 32 65 (.bool false) rfl rfl (fun _ hw => run_mv rfl rfl) (hm39.at 1 rfl) ?_
    simp only [nz1, nz2, nz3]
    refine skx 33 66 rfl rfl rfl (hm39.at 1 rfl) ?_
    simp only [nz1, nz2, nz3]
    refine skx 34 67 rfl rfl rfl (hm39.at 1 rfl) ?_
    simp only [nz1, nz2, nz3]
    refine skx 35 68 rfl rfl rfl (hm39.at 1 rfl) ?_
    simp only [nz1, nz2, nz3]
    refine tk 36 69 (.bool false) rfl rfl (fun _ hw => run_pickf rfl rfl rfl) (hm39.at 1 rfl) ?_
    simp only [nz1, nz2, nz3]
    refine one_ready 37 (by kernel_rfl) ?_
    refine opd rfl (wanted_none rfl) (w_value 4 (.bool false) rfl (run_as rfl rfl) ⟨hm39.at 1 rfl, ?_⟩)
    simp only [nz1, nz2, nz3]
    refine wpAnyH_done (by kernel_rfl) ?_ _
    refine then_n (hK35 _ _ ?_)
    refine wp_ret ?_
    have he64 : tells_m d n = false := (show tells_m d n = false from by unfold tells_m; rw [if_neg hs40] <;> rfl)
    exact ⟨rfl, .bool false, res_t rfl rfl, ⟨by (rw [he64]; try rfl), hm39.below⟩⟩
  rw [(hs40 : awake_m = true)]
  refine tk 1 34 (.bool true) rfl rfl (fun _ hw => run_mv rfl rfl) (hm39.at 1 rfl) ?_
  simp only [nz1, nz2, nz3]
  refine Sym.take_at 2 35 (.agg #[dv0, dv1, .int .i64 (d.fuse), .bool (d.down)]) rfl rfl (by kernel_rfl) (by kernel_rfl) (by kernel_rfl) (fun _ _ _ h => h) rfl (fun _ hw => r_whole hw Tryd.underlying25 rfl (by exact sz_25) rfl rfl) (hm39.at 1 rfl) ?_
  simp only [nz1, nz2, nz3]
  refine Sym.take_at 4 37 (.agg #[dv0, dv1, .int .i64 (d.fuse), .bool (d.down)]) rfl rfl (by kernel_rfl) (by kernel_rfl) (by kernel_rfl) (fun _ _ _ h => h) rfl (fun _ hw => r_whole hw Tryd.underlying25 rfl (by exact sz_25) rfl rfl) (hm39.at 1 rfl) ?_
  simp only [nz1, nz2, nz3]
  refine one_ready 3 (by kernel_rfl) ?_
  refine opd rfl rfl (m_call hm39 36 (.int .i64 ((log_m d))) rfl (run_log rfl rfl) (log_any d dv0 dv1 _ (hm39.see 0 rfl) (by first | omega | assumption | (simp; done) | (simp; omega) | (simp only [List.length_append, List.length_cons, List.length_nil]; omega) | (simp only [List.length_append, List.length_cons, List.length_nil] at *; omega) | decide) (by first | omega | assumption | (simp; done) | (simp; omega) | (simp only [List.length_append, List.length_cons, List.length_nil]; omega) | (simp only [List.length_append, List.length_cons, List.length_nil] at *; omega) | decide)) (fun w41 (hm42 : Mm none (fun _ => True) w w41 [.see (DkR d dv0 dv1) Fd, .blk g4 #[dv0, dv1, .int .i64 (d.fuse), .bool (d.down)] 25, .see (Rs eS 1 ((home_m d).1) v14) F16, .see (Rs eS 1 ((rhome_m d).1) v26) F28]) => ?_))
  have hf43 : (log_m d) = (((d.safe.length / 4 : Nat)) : Int) := log_is d
  refine ⟨hm42.at 1 rfl, ?_⟩
  simp only [nz1, nz2, nz3]
  refine one_ready 5 (by kernel_rfl) ?_
  refine opd rfl rfl (m_call hm42 38 (.int .i64 ((rlog_m d))) rfl (run_rlog rfl rfl) (rlog_any d dv0 dv1 _ (hm42.see 0 rfl) (by first | omega | assumption | (simp; done) | (simp; omega) | (simp only [List.length_append, List.length_cons, List.length_nil]; omega) | (simp only [List.length_append, List.length_cons, List.length_nil] at *; omega) | decide) (by first | omega | assumption | (simp; done) | (simp; omega) | (simp only [List.length_append, List.length_cons, List.length_nil]; omega) | (simp only [List.length_append, List.length_cons, List.length_nil] at *; omega) | decide)) (fun w44 (hm45 : Mm none (fun _ => True) w w44 [.see (DkR d dv0 dv1) Fd, .blk g4 #[dv0, dv1, .int .i64 (d.fuse), .bool (d.down)] 25, .see (Rs eS 1 ((home_m d).1) v14) F16, .see (Rs eS 1 ((rhome_m d).1) v26) F28]) => ?_))
  have hf46 : (rlog_m d) = (((d.safe.length / 4 : Nat)) : Int) := rlog_len d
  refine ⟨hm45.at 1 rfl, ?_⟩
  simp only [nz1, nz2, nz3]
  refine tkb 6 39 ((log_m d) = (rlog_m d)) rfl rfl rfl (fun _ hw => z_eql (log_m d) (rlog_m d) rfl rfl rfl) (hm45.at 1 rfl) (fun hs47 => ?_) (fun hs47 => ?_)
  rotate_left
  · simp only [nz1, nz2, nz3]
    refine tk 7 40 (.bool false) rfl rfl (fun _ hw => run_pick rfl rfl rfl) (hm45.at 1 rfl) ?_
    simp only [nz1, nz2, nz3]
    refine tk 8 41 (.bool false) rfl rfl (fun _ hw => run_mv rfl rfl) (hm45.at 1 rfl) ?_
    simp only [nz1, nz2, nz3]
    refine skx 9 42 rfl rfl rfl (hm45.at 1 rfl) ?_
    simp only [nz1, nz2, nz3]
    refine skx 10 43 rfl rfl rfl (hm45.at 1 rfl) ?_
    simp only [nz1, nz2, nz3]
    refine skx 11 44 rfl rfl rfl (hm45.at 1 rfl) ?_
    simp only [nz1, nz2, nz3]
    refine tk 12 45 (.bool false) rfl rfl (fun _ hw => run_pickf rfl rfl rfl) (hm45.at 1 rfl) ?_
    simp only [nz1, nz2, nz3]
    refine tk 13 46 (.bool false) rfl rfl (fun _ hw => run_mv rfl rfl) (hm45.at 1 rfl) ?_
    simp only [nz1, nz2, nz3]
    refine skx 14 47 rfl rfl rfl (hm45.at 1 rfl) ?_
    simp only [nz1, nz2, nz3]
    refine skx 15 48 rfl rfl rfl (hm45.at 1 rfl) ?_
    simp only [nz1, nz2, nz3]
    refine skx 16 49 rfl rfl rfl (hm45.at 1 rfl) ?_
    simp only [nz1, nz2, nz3]
    refine tk 17 50 (.bool false) rfl rfl (fun _ hw => run_pickf rfl rfl rfl) (hm45.at 1 rfl) ?_
    simp only [nz1, nz2, nz3]
    refine tk 18 51 (.bool false) rfl rfl (fun _ hw => run_mv rfl rfl) (hm45.at 1 rfl) ?_
    simp only [nz1, nz2, nz3]
    refine skx 19 52 rfl rfl rfl (hm45.at 1 rfl) ?_
    simp only [nz1, nz2, nz3]
    refine skx 20 53 rfl rfl rfl (hm45.at 1 rfl) ?_
    simp only [nz1, nz2, nz3]
    refine skx 21 54 rfl rfl rfl (hm45.at 1 rfl) ?_
    simp only [nz1, nz2, nz3]
    refine skx 22 55 rfl rfl rfl (hm45.at 1 rfl) ?_
    simp only [nz1, nz2, nz3]
    refine skx 23 56 rfl rfl rfl (hm45.at 1 rfl) ?_
    simp only [nz1, nz2, nz3]
    refine skx 24 57 rfl rfl rfl (hm45.at 1 rfl) ?_
    simp only [nz1, nz2, nz3]
    refine skx 25 58 rfl rfl rfl (hm45.at 1 rfl) ?_
    simp only [nz1, nz2, nz3]
    refine tk 26 59 (.bool false) rfl rfl (fun _ hw => run_pickf rfl rfl rfl) (hm45.at 1 rfl) ?_
    simp only [nz1, nz2, nz3]
    refine tk 27 60 (.bool false) rfl rfl (fun _ hw => run_mv rfl rfl) (hm45.at 1 rfl) ?_
    simp only [nz1, nz2, nz3]
    refine skx 28 61 rfl rfl rfl (hm45.at 1 rfl) ?_
    simp only [nz1, nz2, nz3]
    refine skx 29 62 rfl rfl rfl (hm45.at 1 rfl) ?_
    simp only [nz1, nz2, nz3]
    refine skx 30 63 rfl rfl rfl (hm45.at 1 rfl) ?_
    simp only [nz1, nz2, nz3]
    refine tk 31 64 (.bool false) rfl rfl (fun _ hw => run_pickf rfl rfl rfl) (hm45.at 1 rfl) ?_
    simp only [nz1, nz2, nz3]
    refine tk 32 65 (.bool false) rfl rfl (fun _ hw => run_mv rfl rfl) (hm45.at 1 rfl) ?_
    simp only [nz1, nz2, nz3]
    refine skx 33 66 rfl rfl rfl (hm45.at 1 rfl) ?_
    simp only [nz1, nz2, nz3]
    refine skx 34 67 rfl rfl rfl (hm45.at 1 rfl) ?_
    simp only [nz1, nz2, nz3]
    refine skx 35 68 rfl rfl rfl (hm45.at 1 rfl) ?_
    simp only [nz1, nz2, nz3]
    refine tk 36 69 (.bool false) rfl rfl (fun _ hw => run_pickf rfl rfl rfl) (hm45.at 1 rfl) ?_
    simp only [nz1, nz2, nz3]
    refine one_ready 37 (by kernel_rfl) ?_
    refine opd rfl (wanted_none rfl) (w_value 4 (.bool false) rfl (run_as rfl rfl) ⟨hm45.at 1 rfl, ?_⟩)
    simp only [nz1, nz2, nz3]
    refine wpAnyH_done (by kernel_rfl) ?_ _
    refine then_n (hK35 _ _ ?_)
    refine wp_ret ?_
    have he63 : tells_m d n = false := (show tells_m d n = false from by unfold tells_m; rw [if_pos hs40, if_neg hs47] <;> rfl)
    exact ⟨rfl, .bool false, res_t rfl rfl, ⟨by (rw [he63]; try rfl), hm45.below⟩⟩
  simp only [nz1, nz2, nz3]
  refine tk 7 40 (.bool true) rfl rfl (fun _ hw => run_pick rfl rfl rfl) (hm45.at 1 rfl) ?_
  simp only [nz1, nz2, nz3]
  refine tk 8 41 (.bool true) rfl rfl (fun _ hw => run_mv rfl rfl) (hm45.at 1 rfl) ?_
  simp only [nz1, nz2, nz3]
  refine Sym.take_at 9 42 (.int .i64 ((epoch_m d).1)) rfl rfl (by kernel_rfl) (by kernel_rfl) (by kernel_rfl) (fun _ _ _ h => h) rfl (fun _ hw => run_mv rfl rfl) (hm45.at 1 rfl) ?_
  simp only [nz1, nz2, nz3]
  refine Sym.take_at 10 43 (.int .i64 ((repoch_m d).1)) rfl rfl (by kernel_rfl) (by kernel_rfl) (by kernel_rfl) (fun _ _ _ h => h) rfl (fun _ hw => run_mv rfl rfl) (hm45.at 1 rfl) ?_
  simp only [nz1, nz2, nz3]
  refine tkb 11 44 ((epoch_m d).1 = (repoch_m d).1) rfl rfl rfl (fun _ hw => z_eql ((epoch_m d).1) ((repoch_m d).1) rfl rfl rfl) (hm45.at 1 rfl) (fun hs48 => ?_) (fun hs48 => ?_)
  rotate_left
  · simp only [nz1, nz2, nz3]
    refine tk 12 45 (.bool false) rfl rfl (fun _ hw => run_pick rfl rfl rfl) (hm45.at 1 rfl) ?_
    simp only [nz1, nz2, nz3]
    refine tk 13 46 (.bool false) rfl rfl (fun _ hw => run_mv rfl rfl) (hm45.at 1 rfl) ?_
    simp only [nz1, nz2, nz3]
    refine skx 14 47 rfl rfl rfl (hm45.at 1 rfl) ?_
    simp only [nz1, nz2, nz3]
    refine skx 15 48 rfl rfl rfl (hm45.at 1 rfl) ?_
    simp only [nz1, nz2, nz3]
    refine skx 16 49 rfl rfl rfl (hm45.at 1 rfl) ?_
    simp only [nz1, nz2, nz3]
    refine tk 17 50 (.bool false) rfl rfl (fun _ hw => run_pickf rfl rfl rfl) (hm45.at 1 rfl) ?_
    simp only [nz1, nz2, nz3]
    refine tk 18 51 (.bool false) rfl rfl (fun _ hw => run_mv rfl rfl) (hm45.at 1 rfl) ?_
    simp only [nz1, nz2, nz3]
    refine skx 19 52 rfl rfl rfl (hm45.at 1 rfl) ?_
    simp only [nz1, nz2, nz3]
    refine skx 20 53 rfl rfl rfl (hm45.at 1 rfl) ?_
    simp only [nz1, nz2, nz3]
    refine skx 21 54 rfl rfl rfl (hm45.at 1 rfl) ?_
    simp only [nz1, nz2, nz3]
    refine skx 22 55 rfl rfl rfl (hm45.at 1 rfl) ?_
    simp only [nz1, nz2, nz3]
    refine skx 23 56 rfl rfl rfl (hm45.at 1 rfl) ?_
    simp only [nz1, nz2, nz3]
    refine skx 24 57 rfl rfl rfl (hm45.at 1 rfl) ?_
    simp only [nz1, nz2, nz3]
    refine skx 25 58 rfl rfl rfl (hm45.at 1 rfl) ?_
    simp only [nz1, nz2, nz3]
    refine tk 26 59 (.bool false) rfl rfl (fun _ hw => run_pickf rfl rfl rfl) (hm45.at 1 rfl) ?_
    simp only [nz1, nz2, nz3]
    refine tk 27 60 (.bool false) rfl rfl (fun _ hw => run_mv rfl rfl) (hm45.at 1 rfl) ?_
    simp only [nz1, nz2, nz3]
    refine skx 28 61 rfl rfl rfl (hm45.at 1 rfl) ?_
    simp only [nz1, nz2, nz3]
    refine skx 29 62 rfl rfl rfl (hm45.at 1 rfl) ?_
    simp only [nz1, nz2, nz3]
    refine skx 30 63 rfl rfl rfl (hm45.at 1 rfl) ?_
    simp only [nz1, nz2, nz3]
    refine tk 31 64 (.bool false) rfl rfl (fun _ hw => run_pickf rfl rfl rfl) (hm45.at 1 rfl) ?_
    simp only [nz1, nz2, nz3]
    refine tk 32 65 (.bool false) rfl rfl (fun _ hw => run_mv rfl rfl) (hm45.at 1 rfl) ?_
    simp only [nz1, nz2, nz3]
    refine skx 33 66 rfl rfl rfl (hm45.at 1 rfl) ?_
    simp only [nz1, nz2, nz3]
    refine skx 34 67 rfl rfl rfl (hm45.at 1 rfl) ?_
    simp only [nz1, nz2, nz3]
    refine skx 35 68 rfl rfl rfl (hm45.at 1 rfl) ?_
    simp only [nz1, nz2, nz3]
    refine tk 36 69 (.bool false) rfl rfl (fun _ hw => run_pickf rfl rfl rfl) (hm45.at 1 rfl) ?_
    simp only [nz1, nz2, nz3]
    refine one_ready 37 (by kernel_rfl) ?_
    refine opd rfl (wanted_none rfl) (w_value 4 (.bool false) rfl (run_as rfl rfl) ⟨hm45.at 1 rfl, ?_⟩)
    simp only [nz1, nz2, nz3]
    refine wpAnyH_done (by kernel_rfl) ?_ _
    refine then_n (hK35 _ _ ?_)
    refine wp_ret ?_
    have he62 : tells_m d n = false := (show tells_m d n = false from by unfold tells_m; rw [if_pos hs40, if_pos hs47, if_neg hs48] <;> rfl)
    exact ⟨rfl, .bool false, res_t rfl rfl, ⟨by (rw [he62]; try rfl), hm45.below⟩⟩
  simp only [nz1, nz2, nz3]
  refine tk 12 45 (.bool true) rfl rfl (fun _ hw => run_pick rfl rfl rfl) (hm45.at 1 rfl) ?_
  simp only [nz1, nz2, nz3]
  refine tk 13 46 (.bool true) rfl rfl (fun _ hw => run_mv rfl rfl) (hm45.at 1 rfl) ?_
  simp only [nz1, nz2, nz3]
  refine Sym.take_at 14 47 (.bool ((epoch_m d).2)) rfl rfl (by kernel_rfl) (by kernel_rfl) (by kernel_rfl) (fun _ _ _ h => h) rfl (fun _ hw => run_mv rfl rfl) (hm45.at 1 rfl) ?_
  simp only [nz1, nz2, nz3]
  refine Sym.take_at 15 48 (.bool ((repoch_m d).2)) rfl rfl (by kernel_rfl) (by kernel_rfl) (by kernel_rfl) (fun _ _ _ h => h) rfl (fun _ hw => run_mv rfl rfl) (hm45.at 1 rfl) ?_
  simp only [nz1, nz2, nz3]
  refine tkb 16 49 ((((epoch_m d).2) == ((repoch_m d).2)) = true) rfl rfl rfl (fun _ hw => (by rw [show decide ((((epoch_m d).2) == ((repoch_m d).2)) = true) = (((epoch_m d).2) == ((repoch_m d).2)) from Bool.decide_eq_true]; exact b_eql ((epoch_m d).2) ((repoch_m d).2) rfl rfl rfl)) (hm45.at 1 rfl) (fun hs49 => ?_) (fun hs49 => ?_)
  rotate_left
  · simp only [nz1, nz2, nz3]
    refine tk 17 50 (.bool false) rfl rfl (fun _ hw => run_pick rfl rfl rfl) (hm45.at 1 rfl) ?_
    simp only [nz1, nz2, nz3]
    refine tk 18 51 (.bool false) rfl rfl (fun _ hw => run_mv rfl rfl) (hm45.at 1 rfl) ?_
    simp only [nz1, nz2, nz3]
    refine skx 19 52 rfl rfl rfl (hm45.at 1 rfl) ?_
    simp only [nz1, nz2, nz3]
    refine skx 20 53 rfl rfl rfl (hm45.at 1 rfl) ?_
    simp only [nz1, nz2, nz3]
    refine skx 21 54 rfl rfl rfl (hm45.at 1 rfl) ?_
    simp only [nz1, nz2, nz3]
    refine skx 22 55 rfl rfl rfl (hm45.at 1 rfl) ?_
    simp only [nz1, nz2, nz3]
    refine skx 23 56 rfl rfl rfl (hm45.at 1 rfl) ?_
    simp only [nz1, nz2, nz3]
    refine skx 24 57 rfl rfl rfl (hm45.at 1 rfl) ?_
    simp only [nz1, nz2, nz3]
    refine skx 25 58 rfl rfl rfl (hm45.at 1 rfl) ?_
    simp only [nz1, nz2, nz3]
    refine tk 26 59 (.bool false) rfl rfl (fun _ hw => run_pickf rfl rfl rfl) (hm45.at 1 rfl) ?_
    simp only [nz1, nz2, nz3]
    refine tk 27 60 (.bool false) rfl rfl (fun _ hw => run_mv rfl rfl) (hm45.at 1 rfl) ?_
    simp only [nz1, nz2, nz3]
    refine skx 28 61 rfl rfl rfl (hm45.at 1 rfl) ?_
    simp only [nz1, nz2, nz3]
    refine skx 29 62 rfl rfl rfl (hm45.at 1 rfl) ?_
    simp only [nz1, nz2, nz3]
    refine skx 30 63 rfl rfl rfl (hm45.at 1 rfl) ?_
    simp only [nz1, nz2, nz3]
    refine tk 31 64 (.bool false) rfl rfl (fun _ hw => run_pickf rfl rfl rfl) (hm45.at 1 rfl) ?_
    simp only [nz1, nz2, nz3]
    refine tk 32 65 (.bool false) rfl rfl (fun _ hw => run_mv rfl rfl) (hm45.at 1 rfl) ?_
    simp only [nz1, nz2, nz3]
    refine skx 33 66 rfl rfl rfl (hm45.at 1 rfl) ?_
    simp only [nz1, nz2, nz3]
    refine skx 34 67 rfl rfl rfl (hm45.at 1 rfl) ?_
    simp only [nz1, nz2, nz3]
    refine skx 35 68 rfl rfl rfl (hm45.at 1 rfl) ?_
    simp only [nz1, nz2, nz3]
    refine tk 36 69 (.bool false) rfl rfl (fun _ hw => run_pickf rfl rfl rfl) (hm45.at 1 rfl) ?_
    simp only [nz1, nz2, nz3]
    refine one_ready 37 (by kernel_rfl) ?_
    refine opd rfl (wanted_none rfl) (w_value 4 (.bool false) rfl (run_as rfl rfl) ⟨hm45.at 1 rfl, ?_⟩)
    simp only [nz1, nz2, nz3]
    refine wpAnyH_done (by kernel_rfl) ?_ _
    refine then_n (hK35 _ _ ?_)
    refine wp_ret ?_
    have he61 : tells_m d n = false := (show tells_m d n = false from by unfold tells_m; rw [if_pos hs40, if_pos hs47, if_pos hs48, if_neg hs49] <;> rfl)
    exact ⟨rfl, .bool false, res_t rfl rfl, ⟨by (rw [he61]; try rfl), hm45.below⟩⟩
  simp only [nz1, nz2, nz3]
  refine tk 17 50 (.bool true) rfl rfl (fun _ hw => run_pick rfl rfl rfl) (hm45.at 1 rfl) ?_
  simp only [nz1, nz2, nz3]
  refine tk 18 51 (.bool true) rfl rfl (fun _ hw => run_mv rfl rfl) (hm45.at 1 rfl) ?_
  simp only [nz1, nz2, nz3]
  refine Sym.take_at 19 52 (.agg #[dv0, dv1, .int .i64 (d.fuse), .bool (d.down)]) rfl rfl (by kernel_rfl) (by kernel_rfl) (by kernel_rfl) (fun _ _ _ h => h) rfl (fun _ hw => r_whole hw Tryd.underlying25 rfl (by exact sz_25) rfl rfl) (hm45.at 1 rfl) ?_
  simp only [nz1, nz2, nz3]
  refine Sym.take_at 20 53 (.int .i64 (n)) rfl rfl (by kernel_rfl) (by kernel_rfl) (by kernel_rfl) (fun _ _ _ h => h) rfl (fun _ hw => run_mv rfl rfl) (hm45.at 1 rfl) ?_
  simp only [nz1, nz2, nz3]
  refine Sym.take_at 22 55 (.agg #[dv0, dv1, .int .i64 (d.fuse), .bool (d.down)]) rfl rfl (by kernel_rfl) (by kernel_rfl) (by kernel_rfl) (fun _ _ _ h => h) rfl (fun _ hw => r_whole hw Tryd.underlying25 rfl (by exact sz_25) rfl rfl) (hm45.at 1 rfl) ?_
  simp only [nz1, nz2, nz3]
  refine Sym.take_at 23 56 (.int .i64 (n)) rfl rfl (by kernel_rfl) (by kernel_rfl) (by kernel_rfl) (fun _ _ _ h => h) rfl (fun _ hw => run_mv rfl rfl) (hm45.at 1 rfl) ?_
  simp only [nz1, nz2, nz3]
  refine one_ready 21 (by kernel_rfl) ?_
  refine opd rfl rfl (m_call hm45 54 (.bool (decide (((0 : Int) ≤ n ∧ (n : Int) ≤ (((d.safe).length : Nat) : Int) ∧ ((n : Int) + 60) / 61 + n + 2 ≤ (((((d.safe).length / 4 : Nat)) : Int)))))) rfl (run_fits rfl rfl rfl) (fitsd_any d n dv0 dv1 _ (hm45.see 0 rfl) (by first | omega | assumption | (simp; done) | (simp; omega) | (simp only [List.length_append, List.length_cons, List.length_nil]; omega) | (simp only [List.length_append, List.length_cons, List.length_nil] at *; omega) | decide) (by first | omega | assumption | (simp; done) | (simp; omega) | (simp only [List.length_append, List.length_cons, List.length_nil]; omega) | (simp only [List.length_append, List.length_cons, List.length_nil] at *; omega) | decide)) (fun w50 (hm51 : Mm none (fun _ => True) w w50 [.see (DkR d dv0 dv1) Fd, .blk g4 #[dv0, dv1, .int .i64 (d.fuse), .bool (d.down)] 25, .see (Rs eS 1 ((home_m d).1) v14) F16, .see (Rs eS 1 ((rhome_m d).1) v26) F28]) => ?_))
  refine ⟨hm51.at 1 rfl, ?_⟩
  simp only [nz1, nz2, nz3]
  refine one_ready 24 (by kernel_rfl) ?_
  refine opd rfl rfl (m_call hm51 57 (.bool ((rfits_m d n))) rfl (run_rfits rfl rfl rfl) (rfits_any d n dv0 dv1 _ (hm51.see 0 rfl) (by first | omega | assumption | (simp; done) | (simp; omega) | (simp only [List.length_append, List.length_cons, List.length_nil]; omega) | (simp only [List.length_append, List.length_cons, List.length_nil] at *; omega) | decide) (by first | omega | assumption | (simp; done) | (simp; omega) | (simp only [List.length_append, List.length_cons, List.length_nil]; omega) | (simp only [List.length_append, List.length_cons, List.length_nil] at *; omega) | decide)) (fun w52 (hm53 : Mm none (fun _ => True) w w52 [.see (DkR d dv0 dv1) Fd, .blk g4 #[dv0, dv1, .int .i64 (d.fuse), .bool (d.down)] 25, .see (Rs eS 1 ((home_m d).1) v14) F16, .see (Rs eS 1 ((rhome_m d).1) v26) F28]) => ?_))
  refine ⟨hm53.at 1 rfl, ?_⟩
  simp only [nz1, nz2, nz3]
  refine tkb 25 58 (((decide (((0 : Int) ≤ n ∧ (n : Int) ≤ (((d.safe).length : Nat) : Int) ∧ ((n : Int) + 60) / 61 + n + 2 ≤ (((((d.safe).length / 4 : Nat)) : Int))))) == (rfits_m d n)) = true) rfl rfl rfl (fun _ hw => (by rw [show decide (((decide (((0 : Int) ≤ n ∧ (n : Int) ≤ (((d.safe).length : Nat) : Int) ∧ ((n : Int) + 60) / 61 + n + 2 ≤ (((((d.safe).length / 4 : Nat)) : Int))))) == (rfits_m d n)) = true) = ((decide (((0 : Int) ≤ n ∧ (n : Int) ≤ (((d.safe).length : Nat) : Int) ∧ ((n : Int) + 60) / 61 + n + 2 ≤ (((((d.safe).length / 4 : Nat)) : Int))))) == (rfits_m d n)) from Bool.decide_eq_true]; exact b_eql (decide (((0 : Int) ≤ n ∧ (n : Int) ≤ (((d.safe).length : Nat) : Int) ∧ ((n : Int) + 60) / 61 + n + 2 ≤ (((((d.safe).length / 4 : Nat)) : Int))))) (rfits_m d n) rfl rfl rfl)) (hm53.at 1 rfl) (fun hs54 => ?_) (fun hs54 => ?_)
  rotate_left
  · simp only [nz1, nz2, nz3]
    refine tk 26 59 (.bool false) rfl rfl (fun _ hw => run_pick rfl rfl rfl) (hm53.at 1 rfl) ?_
    simp only [nz1, nz2, nz3]
    refine tk 27 60 (.bool false) rfl rfl (fun _ hw => run_mv rfl rfl) (hm53.at 1 rfl) ?_
    simp only [nz1, nz2, nz3]
    refine skx 28 61 rfl rfl rfl (hm53.at 1 rfl) ?_
    simp only [nz1, nz2, nz3]
    refine skx 29 62 rfl rfl rfl (hm53.at 1 rfl) ?_
    simp only [nz1, nz2, nz3]
    refine skx 30 63 rfl rfl rfl (hm53.at 1 rfl) ?_
    simp only [nz1, nz2, nz3]
    refine tk 31 64 (.bool false) rfl rfl (fun _ hw => run_pickf rfl rfl rfl) (hm53.at 1 rfl) ?_
    simp only [nz1, nz2, nz3]
    refine tk 32 65 (.bool false) rfl rfl (fun _ hw => run_mv rfl rfl) (hm53.at 1 rfl) ?_
    simp only [nz1, nz2, nz3]
    refine skx 33 66 rfl rfl rfl (hm53.at 1 rfl) ?_
    simp only [nz1, nz2, nz3]
    refine skx 34 67 rfl rfl rfl (hm53.at 1 rfl) ?_
    simp only [nz1, nz2, nz3]
    refine skx 35 68 rfl rfl rfl (hm53.at 1 rfl) ?_
    simp only [nz1, nz2, nz3]
    refine tk 36 69 (.bool false) rfl rfl (fun _ hw => run_pickf rfl rfl rfl) (hm53.at 1 rfl) ?_
    simp only [nz1, nz2, nz3]
    refine one_ready 37 (by kernel_rfl) ?_
    refine opd rfl (wanted_none rfl) (w_value 4 (.bool false) rfl (run_as rfl rfl) ⟨hm53.at 1 rfl, ?_⟩)
    simp only [nz1, nz2, nz3]
    refine wpAnyH_done (by kernel_rfl) ?_ _
    refine then_n (hK35 _ _ ?_)
    refine wp_ret ?_
    have he60 : tells_m d n = false := (show tells_m d n = false from by unfold tells_m; rw [if_pos hs40, if_pos hs47, if_pos hs48, if_pos hs49, if_neg hs54] <;> rfl)
    exact ⟨rfl, .bool false, res_t rfl rfl, ⟨by (rw [he60]; try rfl), hm53.below⟩⟩
  simp only [nz1, nz2, nz3]
  refine tk 26 59 (.bool true) rfl rfl (fun _ hw => run_pick rfl rfl rfl) (hm53.at 1 rfl) ?_
  simp only [nz1, nz2, nz3]
  refine tk 27 60 (.bool true) rfl rfl (fun _ hw => run_mv rfl rfl) (hm53.at 1 rfl) ?_
  simp only [nz1, nz2, nz3]
  refine Sym.take_at 28 61 (v14) rfl rfl (by kernel_rfl) (by kernel_rfl) (by kernel_rfl) (fun _ _ _ h => h) rfl (fun _ hw => run_mv rfl rfl) (hm53.at 1 rfl) ?_
  simp only [nz1, nz2, nz3]
  refine Sym.take_at 29 62 (v26) rfl rfl (by kernel_rfl) (by kernel_rfl) (by kernel_rfl) (fun _ _ _ h => h) rfl (fun _ hw => run_mv rfl rfl) (hm53.at 1 rfl) ?_
  simp only [nz1, nz2, nz3]
  refine one_ready 30 (by kernel_rfl) ?_
  refine opd rfl rfl (m_call hm53 63 (.bool ((samel_m ((home_m d).1) ((rhome_m d).1)))) rfl (run_samel rfl rfl rfl) (samel_any ((home_m d).1) ((rhome_m d).1) v14 v26 _ (hm53.see 2 rfl) (hm53.see 3 rfl) (by first | omega | assumption | (simp; done) | (simp; omega) | (simp only [List.length_append, List.length_cons, List.length_nil]; omega) | (simp only [List.length_append, List.length_cons, List.length_nil] at *; omega) | decide)) (fun w55 (hm56 : Mm none (fun _ => True) w w55 [.see (DkR d dv0 dv1) Fd, .blk g4 #[dv0, dv1, .int .i64 (d.fuse), .bool (d.down)] 25, .see (Rs eS 1 ((home_m d).1) v14) F16, .see (Rs eS 1 ((rhome_m d).1) v26) F28]) => ?_))
  refine ⟨hm56.at 1 rfl, ?_⟩
  simp only [nz1, nz2, nz3]
  by_cases hs57 : (samel_m ((home_m d).1) ((rhome_m d).1)) = true
  · rw [(hs57 : (samel_m ((home_m d).1) ((rhome_m d).1)) = true)]
    refine tk 31 64 (.bool true) rfl rfl (fun _ hw => run_pick rfl rfl rfl) (hm56.at 1 rfl) ?_
    simp only [nz1, nz2, nz3]
    refine tk 32 65 (.bool true) rfl rfl (fun _ hw => run_mv rfl rfl) (hm56.at 1 rfl) ?_
    simp only [nz1, nz2, nz3]
    refine Sym.take_at 33 66 (.int .i64 ((home_m d).2)) rfl rfl (by kernel_rfl) (by kernel_rfl) (by kernel_rfl) (fun _ _ _ h => h) rfl (fun _ hw => run_mv rfl rfl) (hm56.at 1 rfl) ?_
    simp only [nz1, nz2, nz3]
    refine Sym.take_at 34 67 (.int .i64 ((rhome_m d).2)) rfl rfl (by kernel_rfl) (by kernel_rfl) (by kernel_rfl) (fun _ _ _ h => h) rfl (fun _ hw => run_mv rfl rfl) (hm56.at 1 rfl) ?_
    simp only [nz1, nz2, nz3]
    refine Sym.take_at 35 68 (.bool (decide ((home_m d).2 = (rhome_m d).2))) rfl rfl (by kernel_rfl) (by kernel_rfl) (by kernel_rfl) (fun _ _ _ h => h) rfl (fun _ hw => z_eql ((home_m d).2) ((rhome_m d).2) rfl rfl rfl) (hm56.at 1 rfl) ?_
    simp only [nz1, nz2, nz3]
    refine tk 36 69 (.bool (decide ((home_m d).2 = (rhome_m d).2))) rfl rfl (fun _ hw => run_pick rfl rfl rfl) (hm56.at 1 rfl) ?_
    simp only [nz1, nz2, nz3]
    refine one_ready 37 (by kernel_rfl) ?_
    refine opd rfl (wanted_none rfl) (w_value 4 (.bool (decide ((home_m d).2 = (rhome_m d).2))) rfl (run_as rfl rfl) ⟨hm56.at 1 rfl, ?_⟩)
    simp only [nz1, nz2, nz3]
    refine wpAnyH_done (by kernel_rfl) ?_ _
    refine then_n (hK35 _ _ ?_)
    refine wp_ret ?_
    have he58 : tells_m d n = (decide ((home_m d).2 = (rhome_m d).2)) := (show tells_m d n = (decide ((home_m d).2 = (rhome_m d).2)) from by unfold tells_m; rw [if_pos hs40, if_pos hs47, if_pos hs48, if_pos hs49, if_pos hs54, if_pos hs57] <;> rfl)
    exact ⟨rfl, .bool (decide ((home_m d).2 = (rhome_m d).2)), res_t rfl rfl, ⟨by (rw [he58]; try rfl), hm56.below⟩⟩
  rw [(Bool.eq_false_iff.2 hs57 : (samel_m ((home_m d).1) ((rhome_m d).1)) = false)]
  refine tk 31 64 (.bool false) rfl rfl (fun _ hw => run_pick rfl rfl rfl) (hm56.at 1 rfl) ?_
  simp only [nz1, nz2, nz3]
  refine tk 32 65 (.bool false) rfl rfl (fun _ hw => run_mv rfl rfl) (hm56.at 1 rfl) ?_
  simp only [nz1, nz2, nz3]
  refine skx 33 66 rfl rfl rfl (hm56.at 1 rfl) ?_
  simp only [nz1, nz2, nz3]
  refine skx 34 67 rfl rfl rfl (hm56.at 1 rfl) ?_
  simp only [nz1, nz2, nz3]
  refine skx 35 68 rfl rfl rfl (hm56.at 1 rfl) ?_
  simp only [nz1, nz2, nz3]
  refine tk 36 69 (.bool false) rfl rfl (fun _ hw => run_pickf rfl rfl rfl) (hm56.at 1 rfl) ?_
  simp only [nz1, nz2, nz3]
  refine one_ready 37 (by kernel_rfl) ?_
  refine opd rfl (wanted_none rfl) (w_value 4 (.bool false) rfl (run_as rfl rfl) ⟨hm56.at 1 rfl, ?_⟩)
  simp only [nz1, nz2, nz3]
  refine wpAnyH_done (by kernel_rfl) ?_ _
  refine then_n (hK35 _ _ ?_)
  refine wp_ret ?_
  have he59 : tells_m d n = false := (show tells_m d n = false from by unfold tells_m; rw [if_pos hs40, if_pos hs47, if_pos hs48, if_pos hs49, if_pos hs54, if_neg hs57] <;> rfl)
  exact ⟨rfl, .bool false, res_t rfl rfl, ⟨by (rw [he59]; try rfl), hm56.below⟩⟩
theorem run_tells {o : Oper} {a : Act} {w : World} {x0 x1 : Operand} {v0 v1 : Value} (ho : o.op = .call { callee := .value (.func 3), args := #[x0, x1], argTypes := #[25, 3] }) (h0 : a.eval x0 = v0) (h1 : a.eval x1 = v1) :
    (execOp a.eval o).run Tryd.prog w = .ok (.enter 3 #[v0, v1]) w := by
  unfold execOp
  simp only [ho]
  have hf : a.eval (.func 3) = .func (.func 3) #[] #[] := rfl
  generalize a.eval = f at *
  go_simp
end Go.Proofs.YtnmaaijeamlplaaDoor.Bk

set_option linter.unusedVariables false
namespace Go.Proofs.YtnmaaijeamlplaaDoor.Bk
open Go.RowKit Go.Proofs.YtnmaaijeamlplaaDoor.Mem
theorem tells_true (d : Dk) (n : Int) : tells_m d n = true := by
  have e : (decide ((0 : Int) ≤ n ∧ (n : Int) ≤ (((d.safe).length : Nat) : Int) ∧ ((n : Int) + 60) / 61 + n + 2 ≤ (((((d.safe).length / 4 : Nat)) : Int)))) = fits_m d n := (fits_is d n).symm
  unfold tells_m
  rw [if_pos awake_true, rlog_is, if_pos rfl, repoch_eq, if_pos rfl, if_pos (by simp), rfits_eq, e, if_pos (by simp), rhome_eq, if_pos (samel_self _)]
  exact decide_eq_true rfl
end Go.Proofs.YtnmaaijeamlplaaDoor.Bk
