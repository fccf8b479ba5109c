/- A point taken n times and m times comes to n and m times, for numbers below 2^16; so often as the order of the base says it comes, for the base, to zero: PointSpreads returns true, for every text and every two numbers of 16 bits. No condition, but that the package's variable d is as the text lays it. -/
import Derived.Test.YtfpphinnngblgaaDoorRows
import Derived.Test.YtfpphinnngblgaaDoorPtT
import Derived.Test.YtfpphinnngblgaaDoorPtO
import Derived.Test.YtfpphinnngblgaaDoorCrvN
import Derived.Test.YtfpphinnngblgaaDoorPtI
import Derived.Test.YtfpphinnngblgaaDoorPtS
import Derived.WalkKit
import Derived.ProofKit
import Derived.OpenShut
import Derived.ShutString
import Derived.ChangeMaps5
import Derived.LaidMore
import Derived.SevenTiedAt
import Derived.Test.YtfpphinnngblgaaDoorTie
import Derived.Test.YtfpphinnngblgaaDoorCards
namespace Go.Proofs.YtfpphinnngblgaaDoor.pointSpreads
open Go.ChangeShapes Go.WideShapes Go.ChangeAt Go.RowKit Go.ChangeMaps
open Go.Proofs.YtfpphinnngblgaaDoor Go.Proofs.YtfpphinnngblgaaDoor.Fld Go.Proofs.YtfpphinnngblgaaDoor.Arr Go.Proofs.YtfpphinnngblgaaDoor.Sym Go.Proofs.YtfpphinnngblgaaDoor.Sx Go.Proofs.YtfpphinnngblgaaDoor.Crv
open Go.Proofs.YtfpphinnngblgaaDoor.Num (up)
set_option linter.unusedVariables false

theorem own : ownKnob Tryd.prog.godebug = none := by kernel_rfl
set_option maxHeartbeats 4000000 in
set_option maxRecDepth 100000 in
theorem walk_some (s : ByteArray) (p : Pn) (hs : unP s = some p) (hp : p.ok) (n m : Nat) (hn : n < 65536) (hm : m < 65536) (F1 : sameP (addP (timesP n p 256) (timesP m p 256)) (timesP (n + m) p 256)) (F2 : sameP (timesP ordN baseP 256) zeroP) (w : World) (hd : DD w) : Calls Tryd.prog 7 #[.string s, .int .u16 ((n : Nat) : Int), .int .u16 ((m : Nat) : Int)] w (fun e w' => e = .returned (.bool true) ∧ Below w.heap.size w w') := by
  go_enter Tryd.func7, Tryd.ntmps7
  have hm0 := Mm.nil w
  refine wp_seq_k (fun K1 hK1 => ?_)
  refine wp_region_lit ?_
  refine lst (wanted_none rfl) (w_value 6 (.bool false) rfl (run_as rfl rfl) ?_)
  simp only [List.setIfInBounds_toArray, List.set_cons_zero, List.set_cons_succ]
  refine wpList_nil ?_
  refine then_n (hK1 _ _ ?_)
  refine wp_seq_k (fun K2 hK2 => ?_)
  refine wp_region_lit ?_
  refine lst (wanted_none rfl) (w_value 15 (.string s) rfl (run_mv rfl rfl) ?_)
  simp only [List.setIfInBounds_toArray, List.set_cons_zero, List.set_cons_succ]
  refine lst (wanted_none rfl) (m_call hm0 16 (.tuple #[.agg (pq p), .bool true]) rfl (run_pUnpack rfl rfl) (un_at s p hs _ (kept hd hm0.below)) (fun w3 hm4 => ?_))
  simp only [List.setIfInBounds_toArray, List.set_cons_zero, List.set_cons_succ]
  refine lst (wanted_none rfl) (w_value 14 (.tuple #[.agg (pq p), .bool true]) rfl (run_mv rfl rfl) ?_)
  simp only [List.setIfInBounds_toArray, List.set_cons_zero, List.set_cons_succ]
  refine lst (wanted_none rfl) (w_value 17 (.agg (pq p)) rfl (run_ex rfl rfl rfl) ?_)
  simp only [List.setIfInBounds_toArray, List.set_cons_zero, List.set_cons_succ]
  refine lst (wanted_none rfl) (w_value 18 (.bool true) rfl (run_ex rfl rfl rfl) ?_)
  simp only [List.setIfInBounds_toArray, List.set_cons_zero, List.set_cons_succ]
  refine lst (wanted_none rfl) (m_alloc (c := pt 0 0 0 0) (T := 25) hm4 7 rfl (al_P rfl) (fun g5 w6 (hm7 : Mm w w6 [(g5, pt 0 0 0 0, 25)]) => ?_))
  simp only [List.setIfInBounds_toArray, List.set_cons_zero, List.set_cons_succ]
  refine lst (wanted_none rfl) (m_store 0 25 _ _ (pq p) (old := pt 0 0 0 0) hm7 rfl rfl rfl rfl rfl (by rw [pq_sz]; exact info_p) ((pt_sz _ _ _ _).trans (pq_sz _).symm) (pq_one _) (fun w8 (hm9 : Mm w w8 [(g5, pq p, 25)]) => ?_))
  refine lst (wanted_none rfl) (w_value 8 (.bool true) rfl (run_as rfl rfl) ?_)
  simp only [List.setIfInBounds_toArray, List.set_cons_zero, List.set_cons_succ]
  refine wpList_nil ?_
  refine then_n (hK2 _ _ ?_)
  refine wp_seq_k (fun K10 hK10 => ?_)
  refine wp_seq_k (fun K11 hK11 => ?_)
  refine wp_region_lit ?_
  refine lst (wanted_none rfl) (w_value 19 (.bool true) rfl (run_mv rfl rfl) ?_)
  simp only [List.setIfInBounds_toArray, List.set_cons_zero, List.set_cons_succ]
  refine lst (wanted_none rfl) (w_value 20 (.bool false) rfl (r_not true rfl rfl) ?_)
  simp only [List.setIfInBounds_toArray, List.set_cons_zero, List.set_cons_succ]
  refine wpList_nil ?_
  refine then_n (hK11 _ _ ?_)
  refine cond_f rfl ?_
  refine wp_skip ?_
  refine then_n (hK10 _ _ ?_)
  refine wp_seq_k (fun K12 hK12 => ?_)
  refine wp_region_lit ?_
  refine lst (wanted_none rfl) (w_value 22 (.int .u16 ((n : Nat) : Int)) rfl (run_mv rfl rfl) ?_)
  simp only [List.setIfInBounds_toArray, List.set_cons_zero, List.set_cons_succ]
  refine lst (wanted_none rfl) (w_value 23 (.int .i64 ((n : Nat) : Int)) rfl (r_conv (k' := .i64) n n some_u16 Tryd.underlying3 (wrap_nat (show n < 9223372036854775808 from by omega)) rfl rfl) ?_)
  simp only [List.setIfInBounds_toArray, List.set_cons_zero, List.set_cons_succ]
  refine lst (wanted_none rfl) (w_value 24 (.int .u16 ((m : Nat) : Int)) rfl (run_mv rfl rfl) ?_)
  simp only [List.setIfInBounds_toArray, List.set_cons_zero, List.set_cons_succ]
  refine lst (wanted_none rfl) (w_value 25 (.int .i64 ((m : Nat) : Int)) rfl (r_conv (k' := .i64) m m some_u16 Tryd.underlying3 (wrap_nat (show m < 9223372036854775808 from by omega)) rfl rfl) ?_)
  simp only [List.setIfInBounds_toArray, List.set_cons_zero, List.set_cons_succ]
  refine lst (wanted_none rfl) (w_value 26 (.int .i64 (((n + m) : Nat) : Int)) rfl (r_add n m (show (n + m) < 9223372036854775808 from by omega) rfl rfl rfl) ?_)
  simp only [List.setIfInBounds_toArray, List.set_cons_zero, List.set_cons_succ]
  refine lst (wanted_none rfl) (w_value 9 (.int .i64 (((n + m) : Nat) : Int)) rfl (run_as rfl rfl) ?_)
  simp only [List.setIfInBounds_toArray, List.set_cons_zero, List.set_cons_succ]
  refine wpList_nil ?_
  refine then_n (hK12 _ _ ?_)
  refine wp_seq_k (fun K13 hK13 => ?_)
  refine wp_region_lit ?_
  refine lst (wanted_none rfl) (w_value 27 (.int .u16 ((n : Nat) : Int)) rfl (run_mv rfl rfl) ?_)
  simp only [List.setIfInBounds_toArray, List.set_cons_zero, List.set_cons_succ]
  refine lst (wanted_none rfl) (w_value 28 (.int .u8 (((n % 256) : Nat) : Int)) rfl (r_conv (k' := .u8) n (n % 256) some_u16 Tryd.underlying5 (wrap_u8n _) rfl rfl) ?_)
  simp only [List.setIfInBounds_toArray, List.set_cons_zero, List.set_cons_succ]
  refine lst (wanted_none rfl) (w_value 29 (.int .u16 ((n : Nat) : Int)) rfl (run_mv rfl rfl) ?_)
  simp only [List.setIfInBounds_toArray, List.set_cons_zero, List.set_cons_succ]
  refine lst (wanted_none rfl) (w_value 30 (.int .u16 (((n / 2 ^ 8) : Nat) : Int)) rfl (r_shr n 8 (by decide) rfl rfl rfl) ?_)
  simp only [List.setIfInBounds_toArray, List.set_cons_zero, List.set_cons_succ]
  refine lst (wanted_none rfl) (w_value 31 (.int .u8 ((((n / 2 ^ 8) % 256) : Nat) : Int)) rfl (r_conv (k' := .u8) (n / 2 ^ 8) ((n / 2 ^ 8) % 256) some_u16 Tryd.underlying5 (wrap_u8n _) rfl rfl) ?_)
  simp only [List.setIfInBounds_toArray, List.set_cons_zero, List.set_cons_succ]
  refine lst (wanted_none rfl) (w_value 32 (.agg (bs n)) rfl (r_bd2 (n % 256) ((n / 2 ^ 8) % 256) n (low_two n hn) rfl rfl rfl) ?_)
  simp only [List.setIfInBounds_toArray, List.set_cons_zero, List.set_cons_succ]
  refine lst (wanted_none rfl) (w_value 33 (.agg (pq p)) rfl (run_row rfl rfl (hm9.at 0 rfl) Tryd.underlying25 rfl (by rw [pq_sz]; exact info_p)) ?_)
  simp only [List.setIfInBounds_toArray, List.set_cons_zero, List.set_cons_succ]
  refine lst (wanted_none rfl) (m_call hm9 34 (.agg (pq (timesP n p 256))) rfl (run_pTimes rfl rfl rfl) (times_p n p hp _ (kept hd hm9.below)) (fun w14 hm15 => ?_))
  simp only [List.setIfInBounds_toArray, List.set_cons_zero, List.set_cons_succ]
  refine lst (wanted_none rfl) (m_alloc (c := pt 0 0 0 0) (T := 25) hm15 10 rfl (al_P rfl) (fun g16 w17 (hm18 : Mm w w17 [(g5, pq p, 25), (g16, pt 0 0 0 0, 25)]) => ?_))
  simp only [List.setIfInBounds_toArray, List.set_cons_zero, List.set_cons_succ]
  refine lst (wanted_none rfl) (m_store 1 25 _ _ (pq (timesP n p 256)) (old := pt 0 0 0 0) hm18 rfl rfl rfl rfl rfl (by rw [pq_sz]; exact info_p) ((pt_sz _ _ _ _).trans (pq_sz _).symm) (pq_one _) (fun w19 (hm20 : Mm w w19 [(g5, pq p, 25), (g16, pq (timesP n p 256), 25)]) => ?_))
  refine wpList_nil ?_
  refine then_n (hK13 _ _ ?_)
  refine wp_seq_k (fun K21 hK21 => ?_)
  refine wp_region_lit ?_
  refine lst (wanted_none rfl) (w_value 35 (.int .u16 ((m : Nat) : Int)) rfl (run_mv rfl rfl) ?_)
  simp only [List.setIfInBounds_toArray, List.set_cons_zero, List.set_cons_succ]
  refine lst (wanted_none rfl) (w_value 36 (.int .u8 (((m % 256) : Nat) : Int)) rfl (r_conv (k' := .u8) m (m % 256) some_u16 Tryd.underlying5 (wrap_u8n _) rfl rfl) ?_)
  simp only [List.setIfInBounds_toArray, List.set_cons_zero, List.set_cons_succ]
  refine lst (wanted_none rfl) (w_value 37 (.int .u16 ((m : Nat) : Int)) rfl (run_mv rfl rfl) ?_)
  simp only [List.setIfInBounds_toArray, List.set_cons_zero, List.set_cons_succ]
  refine lst (wanted_none rfl) (w_value 38 (.int .u16 (((m / 2 ^ 8) : Nat) : Int)) rfl (r_shr m 8 (by decide) rfl rfl rfl) ?_)
  simp only [List.setIfInBounds_toArray, List.set_cons_zero, List.set_cons_succ]
  refine lst (wanted_none rfl) (w_value 39 (.int .u8 ((((m / 2 ^ 8) % 256) : Nat) : Int)) rfl (r_conv (k' := .u8) (m / 2 ^ 8) ((m / 2 ^ 8) % 256) some_u16 Tryd.underlying5 (wrap_u8n _) rfl rfl) ?_)
  simp only [List.setIfInBounds_toArray, List.set_cons_zero, List.set_cons_succ]
  refine lst (wanted_none rfl) (w_value 40 (.agg (bs m)) rfl (r_bd2 (m % 256) ((m / 2 ^ 8) % 256) m (low_two m hm) rfl rfl rfl) ?_)
  simp only [List.setIfInBounds_toArray, List.set_cons_zero, List.set_cons_succ]
  refine lst (wanted_none rfl) (w_value 41 (.agg (pq p)) rfl (run_row rfl rfl (hm20.at 0 rfl) Tryd.underlying25 rfl (by rw [pq_sz]; exact info_p)) ?_)
  simp only [List.setIfInBounds_toArray, List.set_cons_zero, List.set_cons_succ]
  refine lst (wanted_none rfl) (m_call hm20 42 (.agg (pq (timesP m p 256))) rfl (run_pTimes rfl rfl rfl) (times_p m p hp _ (kept hd hm20.below)) (fun w22 hm23 => ?_))
  simp only [List.setIfInBounds_toArray, List.set_cons_zero, List.set_cons_succ]
  refine lst (wanted_none rfl) (m_alloc (c := pt 0 0 0 0) (T := 25) hm23 11 rfl (al_P rfl) (fun g24 w25 (hm26 : Mm w w25 [(g5, pq p, 25), (g16, pq (timesP n p 256), 25), (g24, pt 0 0 0 0, 25)]) => ?_))
  simp only [List.setIfInBounds_toArray, List.set_cons_zero, List.set_cons_succ]
  refine lst (wanted_none rfl) (m_store 2 25 _ _ (pq (timesP m p 256)) (old := pt 0 0 0 0) hm26 rfl rfl rfl rfl rfl (by rw [pq_sz]; exact info_p) ((pt_sz _ _ _ _).trans (pq_sz _).symm) (pq_one _) (fun w27 (hm28 : Mm w w27 [(g5, pq p, 25), (g16, pq (timesP n p 256), 25), (g24, pq (timesP m p 256), 25)]) => ?_))
  refine wpList_nil ?_
  refine then_n (hK21 _ _ ?_)
  refine wp_seq_k (fun K29 hK29 => ?_)
  refine wp_region_lit ?_
  refine lst (wanted_none rfl) (w_value 43 (.int .i64 (((n + m) : Nat) : Int)) rfl (run_mv rfl rfl) ?_)
  simp only [List.setIfInBounds_toArray, List.set_cons_zero, List.set_cons_succ]
  refine lst (wanted_none rfl) (w_value 44 (.int .u8 ((((n + m) % 256) : Nat) : Int)) rfl (r_conv (k' := .u8) (n + m) ((n + m) % 256) some_i64 Tryd.underlying5 (wrap_u8n _) rfl rfl) ?_)
  simp only [List.setIfInBounds_toArray, List.set_cons_zero, List.set_cons_succ]
  refine lst (wanted_none rfl) (w_value 45 (.int .i64 (((n + m) : Nat) : Int)) rfl (run_mv rfl rfl) ?_)
  simp only [List.setIfInBounds_toArray, List.set_cons_zero, List.set_cons_succ]
  refine lst (wanted_none rfl) (w_value 46 (.int .i64 ((((n + m) / 2 ^ 8) : Nat) : Int)) rfl (r_shr (n + m) 8 (by decide) rfl rfl rfl) ?_)
  simp only [List.setIfInBounds_toArray, List.set_cons_zero, List.set_cons_succ]
  refine lst (wanted_none rfl) (w_value 47 (.int .u8 (((((n + m) / 2 ^ 8) % 256) : Nat) : Int)) rfl (r_conv (k' := .u8) ((n + m) / 2 ^ 8) (((n + m) / 2 ^ 8) % 256) some_i64 Tryd.underlying5 (wrap_u8n _) rfl rfl) ?_)
  simp only [List.setIfInBounds_toArray, List.set_cons_zero, List.set_cons_succ]
  refine lst (wanted_none rfl) (w_value 48 (.int .i64 (((n + m) : Nat) : Int)) rfl (run_mv rfl rfl) ?_)
  simp only [List.setIfInBounds_toArray, List.set_cons_zero, List.set_cons_succ]
  refine lst (wanted_none rfl) (w_value 49 (.int .i64 ((((n + m) / 2 ^ 16) : Nat) : Int)) rfl (r_shr (n + m) 16 (by decide) rfl rfl rfl) ?_)
  simp only [List.setIfInBounds_toArray, List.set_cons_zero, List.set_cons_succ]
  refine lst (wanted_none rfl) (w_value 50 (.int .u8 (((((n + m) / 2 ^ 16) % 256) : Nat) : Int)) rfl (r_conv (k' := .u8) ((n + m) / 2 ^ 16) (((n + m) / 2 ^ 16) % 256) some_i64 Tryd.underlying5 (wrap_u8n _) rfl rfl) ?_)
  simp only [List.setIfInBounds_toArray, List.set_cons_zero, List.set_cons_succ]
  refine lst (wanted_none rfl) (w_value 51 (.agg (bs (n + m))) rfl (r_bd3 ((n + m) % 256) (((n + m) / 2 ^ 8) % 256) (((n + m) / 2 ^ 16) % 256) (n + m) (low_three (n + m) (by omega)) rfl rfl rfl rfl) ?_)
  simp only [List.setIfInBounds_toArray, List.set_cons_zero, List.set_cons_succ]
  refine lst (wanted_none rfl) (w_value 52 (.agg (pq p)) rfl (run_row rfl rfl (hm28.at 0 rfl) Tryd.underlying25 rfl (by rw [pq_sz]; exact info_p)) ?_)
  simp only [List.setIfInBounds_toArray, List.set_cons_zero, List.set_cons_succ]
  refine lst (wanted_none rfl) (m_call hm28 53 (.agg (pq (timesP (n + m) p 256))) rfl (run_pTimes rfl rfl rfl) (times_p (n + m) p hp _ (kept hd hm28.below)) (fun w30 hm31 => ?_))
  simp only [List.setIfInBounds_toArray, List.set_cons_zero, List.set_cons_succ]
  refine lst (wanted_none rfl) (m_alloc (c := pt 0 0 0 0) (T := 25) hm31 12 rfl (al_P rfl) (fun g32 w33 (hm34 : Mm w w33 [(g5, pq p, 25), (g16, pq (timesP n p 256), 25), (g24, pq (timesP m p 256), 25), (g32, pt 0 0 0 0, 25)]) => ?_))
  simp only [List.setIfInBounds_toArray, List.set_cons_zero, List.set_cons_succ]
  refine lst (wanted_none rfl) (m_store 3 25 _ _ (pq (timesP (n + m) p 256)) (old := pt 0 0 0 0) hm34 rfl rfl rfl rfl rfl (by rw [pq_sz]; exact info_p) ((pt_sz _ _ _ _).trans (pq_sz _).symm) (pq_one _) (fun w35 (hm36 : Mm w w35 [(g5, pq p, 25), (g16, pq (timesP n p 256), 25), (g24, pq (timesP m p 256), 25), (g32, pq (timesP (n + m) p 256), 25)]) => ?_))
  refine wpList_nil ?_
  refine then_n (hK29 _ _ ?_)
  refine wp_seq_k (fun K37 hK37 => ?_)
  refine wp_region_lit ?_
  refine lst (wanted_none rfl) (w_value 54 (.agg (bs ordL)) rfl (by unfold execOp; go_simp; rfl) ?_)
  simp only [List.setIfInBounds_toArray, List.set_cons_zero, List.set_cons_succ]
  refine lst (wanted_none rfl) (m_alloc (c := bs 0) (T := 23) hm36 13 rfl (run_alN rfl) (fun g38 w39 (hm40 : Mm w w39 [(g5, pq p, 25), (g16, pq (timesP n p 256), 25), (g24, pq (timesP m p 256), 25), (g32, pq (timesP (n + m) p 256), 25), (g38, bs 0, 23)]) => ?_))
  simp only [List.setIfInBounds_toArray, List.set_cons_zero, List.set_cons_succ]
  refine lst (wanted_none rfl) (m_store 4 23 _ _ (bs ordL) (old := bs 0) hm40 rfl rfl rfl rfl rfl (by rw [bs_sz]; exact info_b) ((bs_sz _).trans (bs_sz _).symm) (bs_one _) (fun w41 (hm42 : Mm w w41 [(g5, pq p, 25), (g16, pq (timesP n p 256), 25), (g24, pq (timesP m p 256), 25), (g32, pq (timesP (n + m) p 256), 25), (g38, bs ordL, 23)]) => ?_))
  refine wpList_nil ?_
  refine then_n (hK37 _ _ ?_)
  refine wp_seq_k (fun K43 hK43 => ?_)
  refine wp_region_lit ?_
  refine lst (wanted_none rfl) (w_value 55 (.pointer (some ⟨g38, 31, none⟩)) rfl (r_ix g38 31 (by decide) Tryd.underlying23 one_u8 rfl rfl rfl) ?_)
  simp only [List.setIfInBounds_toArray, List.set_cons_zero, List.set_cons_succ]
  refine lst (wanted_none rfl) (m_put 4 (new := rowOf .u8 (up (bt ordL) 31 16) 32) 31 (.int .u8 16) (old := bs ordL) hm42 rfl rfl (p_cell (n := 32) (f := (bt ordL)) g38 31 16 (by decide) (hm42.at 4 rfl) rfl one_u8 rfl rfl) (rowOf_set _ _ _ _ _) (fun w44 (hm45 : Mm w w44 [(g5, pq p, 25), (g16, pq (timesP n p 256), 25), (g24, pq (timesP m p 256), 25), (g32, pq (timesP (n + m) p 256), 25), (g38, rowOf .u8 (up (bt ordL) 31 16) 32, 23)]) => ?_))
  refine wpList_nil ?_
  have hm46 : Mm w w44 [(g5, pq p, 25), (g16, pq (timesP n p 256), 25), (g24, pq (timesP m p 256), 25), (g32, pq (timesP (n + m) p 256), 25), (g38, bs ordN, 23)] := by rw [show (bs ordN : Array Value) = rowOf .u8 (up (bt ordL) 31 16) 32 from ord_row]; exact hm45
  refine then_n (hK43 _ _ ?_)
  refine wp_seq_k (fun K47 hK47 => ?_)
  have hm48 := hm46.drew
  refine wp_region_held_drew (S := fun w' => Sym.Blk w' g16 (pq (timesP n p 256)) 25 ∧ Sym.Blk w' g24 (pq (timesP m p 256)) 25 ∧ Sym.Blk w' g32 (pq (timesP (n + m) p 256)) 25 ∧ Sym.Blk w' g38 (bs ordN) 23) (by kernel_rfl) (⟨hm48.at 1 rfl, hm48.at 2 rfl, hm48.at 3 rfl, hm48.at 4 rfl⟩) (fun _ => ?_)
  generalize w44.drew = w49 at *
  refine one_ready 0 (by kernel_rfl) ?_
  refine opd rfl (wanted_none rfl) (m_call hm48 56 (.bool true) rfl (run_awake5 rfl) (awake5_any _ (kept hd hm48.below)) (fun w50 hm51 => ?_))
  refine ⟨⟨hm51.at 1 rfl, hm51.at 2 rfl, hm51.at 3 rfl, hm51.at 4 rfl⟩, ?_⟩
  simp only [List.setIfInBounds_toArray, List.set_cons_zero, List.set_cons_succ]
  refine Sym.take_at 1 57 (.bool true) rfl rfl (by kernel_rfl) (by kernel_rfl) (by kernel_rfl) (fun _ _ _ h => h) (wanted_none rfl) (fun _ hw => run_mv rfl rfl) (⟨hm51.at 1 rfl, hm51.at 2 rfl, hm51.at 3 rfl, hm51.at 4 rfl⟩) ?_
  simp only [List.setIfInBounds_toArray, List.set_cons_zero, List.set_cons_succ]
  refine Sym.take_at 2 58 (.agg (pq (timesP n p 256))) rfl rfl (by kernel_rfl) (by kernel_rfl) (by kernel_rfl) (fun _ _ _ h => h) rfl (fun _ hw => run_row rfl rfl hw.1 Tryd.underlying25 rfl (by rw [pq_sz]; exact info_p)) (⟨hm51.at 1 rfl, hm51.at 2 rfl, hm51.at 3 rfl, hm51.at 4 rfl⟩) ?_
  simp only [List.setIfInBounds_toArray, List.set_cons_zero, List.set_cons_succ]
  refine Sym.take_at 3 59 (.agg (pq (timesP m p 256))) rfl rfl (by kernel_rfl) (by kernel_rfl) (by kernel_rfl) (fun _ _ _ h => h) rfl (fun _ hw => run_row rfl rfl hw.2.1 Tryd.underlying25 rfl (by rw [pq_sz]; exact info_p)) (⟨hm51.at 1 rfl, hm51.at 2 rfl, hm51.at 3 rfl, hm51.at 4 rfl⟩) ?_
  simp only [List.setIfInBounds_toArray, List.set_cons_zero, List.set_cons_succ]
  refine Sym.take_at 5 61 (.agg (pq (timesP (n + m) p 256))) rfl rfl (by kernel_rfl) (by kernel_rfl) (by kernel_rfl) (fun _ _ _ h => h) rfl (fun _ hw => run_row rfl rfl hw.2.2.1 Tryd.underlying25 rfl (by rw [pq_sz]; exact info_p)) (⟨hm51.at 1 rfl, hm51.at 2 rfl, hm51.at 3 rfl, hm51.at 4 rfl⟩) ?_
  simp only [List.setIfInBounds_toArray, List.set_cons_zero, List.set_cons_succ]
  refine one_ready 4 (by kernel_rfl) ?_
  refine opd rfl rfl (m_call hm51 60 (.agg (pq (addP (timesP n p 256) (timesP m p 256)))) rfl (run_pAdd rfl rfl rfl) (add_p (timesP n p 256) (timesP m p 256) (timesP_ok _ _ _) (timesP_ok _ _ _) _ (kept hd hm51.below)) (fun w52 hm53 => ?_))
  refine ⟨⟨hm53.at 1 rfl, hm53.at 2 rfl, hm53.at 3 rfl, hm53.at 4 rfl⟩, ?_⟩
  simp only [List.setIfInBounds_toArray, List.set_cons_zero, List.set_cons_succ]
  refine one_ready 6 (by kernel_rfl) ?_
  refine opd rfl rfl (m_call hm53 62 (.bool true) rfl (run_pSame rfl rfl rfl) (same_c (addP (timesP n p 256) (timesP m p 256)) (timesP (n + m) p 256) (addP_ok _ _) (timesP_ok _ _ _) true (decide_eq_true F1) _) (fun w54 hm55 => ?_))
  refine ⟨⟨hm55.at 1 rfl, hm55.at 2 rfl, hm55.at 3 rfl, hm55.at 4 rfl⟩, ?_⟩
  simp only [List.setIfInBounds_toArray, List.set_cons_zero, List.set_cons_succ]
  refine Sym.take_at 7 63 (.bool true) rfl rfl (by kernel_rfl) (by kernel_rfl) (by kernel_rfl) (fun _ _ _ h => h) (wanted_none rfl) (fun _ hw => run_pick rfl rfl rfl) (⟨hm55.at 1 rfl, hm55.at 2 rfl, hm55.at 3 rfl, hm55.at 4 rfl⟩) ?_
  simp only [List.setIfInBounds_toArray, List.set_cons_zero, List.set_cons_succ]
  refine Sym.take_at 8 64 (.bool true) rfl rfl (by kernel_rfl) (by kernel_rfl) (by kernel_rfl) (fun _ _ _ h => h) (wanted_none rfl) (fun _ hw => run_mv rfl rfl) (⟨hm55.at 1 rfl, hm55.at 2 rfl, hm55.at 3 rfl, hm55.at 4 rfl⟩) ?_
  simp only [List.setIfInBounds_toArray, List.set_cons_zero, List.set_cons_succ]
  refine Sym.take_at 9 65 (.agg (bs ordN)) rfl rfl (by kernel_rfl) (by kernel_rfl) (by kernel_rfl) (fun _ _ _ h => h) rfl (fun _ hw => run_row rfl rfl hw.2.2.2 Tryd.underlying23 rfl (by rw [bs_sz]; exact info_b)) (⟨hm55.at 1 rfl, hm55.at 2 rfl, hm55.at 3 rfl, hm55.at 4 rfl⟩) ?_
  simp only [List.setIfInBounds_toArray, List.set_cons_zero, List.set_cons_succ]
  refine one_ready 10 (by kernel_rfl) ?_
  refine opd rfl rfl (m_call hm55 66 (.agg (pq baseP)) rfl (run_Base rfl) (base_any _ (kept hd hm55.below)) (fun w56 hm57 => ?_))
  refine ⟨⟨hm57.at 1 rfl, hm57.at 2 rfl, hm57.at 3 rfl, hm57.at 4 rfl⟩, ?_⟩
  simp only [List.setIfInBounds_toArray, List.set_cons_zero, List.set_cons_succ]
  refine one_ready 11 (by kernel_rfl) ?_
  refine opd rfl rfl (m_call hm57 67 (.agg (pq (timesP ordN baseP 256))) rfl (run_pTimes rfl rfl rfl) (times_p ordN baseP (baseP_ok) _ (kept hd hm57.below)) (fun w58 hm59 => ?_))
  refine ⟨⟨hm59.at 1 rfl, hm59.at 2 rfl, hm59.at 3 rfl, hm59.at 4 rfl⟩, ?_⟩
  simp only [List.setIfInBounds_toArray, List.set_cons_zero, List.set_cons_succ]
  refine one_ready 12 (by kernel_rfl) ?_
  refine opd rfl rfl (m_call hm59 68 (.agg (pq zeroP)) rfl (run_pZero rfl) (zero_any _) (fun w60 hm61 => ?_))
  refine ⟨⟨hm61.at 1 rfl, hm61.at 2 rfl, hm61.at 3 rfl, hm61.at 4 rfl⟩, ?_⟩
  simp only [List.setIfInBounds_toArray, List.set_cons_zero, List.set_cons_succ]
  refine one_ready 13 (by kernel_rfl) ?_
  refine opd rfl rfl (m_call hm61 69 (.bool true) rfl (run_pSame rfl rfl rfl) (same_c (timesP ordN baseP 256) zeroP (timesP_ok _ _ _) (zeroP_ok) true (decide_eq_true F2) _) (fun w62 hm63 => ?_))
  refine ⟨⟨hm63.at 1 rfl, hm63.at 2 rfl, hm63.at 3 rfl, hm63.at 4 rfl⟩, ?_⟩
  simp only [List.setIfInBounds_toArray, List.set_cons_zero, List.set_cons_succ]
  refine Sym.take_at 14 70 (.bool true) rfl rfl (by kernel_rfl) (by kernel_rfl) (by kernel_rfl) (fun _ _ _ h => h) (wanted_none rfl) (fun _ hw => run_pick rfl rfl rfl) (⟨hm63.at 1 rfl, hm63.at 2 rfl, hm63.at 3 rfl, hm63.at 4 rfl⟩) ?_
  simp only [List.setIfInBounds_toArray, List.set_cons_zero, List.set_cons_succ]
  refine one_ready 15 (by kernel_rfl) ?_
  refine opd rfl (wanted_none rfl) (w_value 6 (.bool true) rfl (run_as rfl rfl) ⟨⟨hm63.at 1 rfl, hm63.at 2 rfl, hm63.at 3 rfl, hm63.at 4 rfl⟩, ?_⟩)
  simp only [List.setIfInBounds_toArray, List.set_cons_zero, List.set_cons_succ]
  refine wpAnyH_done (by kernel_rfl) ?_ _
  refine then_n (hK47 _ _ ?_)
  refine wp_ret ?_
  exact ⟨rfl, .bool true, res_t rfl rfl, ⟨rfl, hm63.below⟩⟩
set_option maxHeartbeats 4000000 in
set_option maxRecDepth 100000 in
theorem walk_none (s : ByteArray) (hs : unP s = none) (n m : Nat) (hn : n < 65536) (hm : m < 65536) (w : World) (hd : DD w) : Calls Tryd.prog 7 #[.string s, .int .u16 ((n : Nat) : Int), .int .u16 ((m : Nat) : Int)] w (fun e w' => e = .returned (.bool true) ∧ Below w.heap.size w w') := by
  go_enter Tryd.func7, Tryd.ntmps7
  have hm0 := Mm.nil w
  refine wp_seq_k (fun K1 hK1 => ?_)
  refine wp_region_lit ?_
  refine lst (wanted_none rfl) (w_value 6 (.bool false) rfl (run_as rfl rfl) ?_)
  simp only [List.setIfInBounds_toArray, List.set_cons_zero, List.set_cons_succ]
  refine wpList_nil ?_
  refine then_n (hK1 _ _ ?_)
  refine wp_seq_k (fun K2 hK2 => ?_)
  refine wp_region_lit ?_
  refine lst (wanted_none rfl) (w_value 15 (.string s) rfl (run_mv rfl rfl) ?_)
  simp only [List.setIfInBounds_toArray, List.set_cons_zero, List.set_cons_succ]
  refine lst (wanted_none rfl) (m_call hm0 16 (.tuple #[.agg (pt 0 0 0 0), .bool false]) rfl (run_pUnpack rfl rfl) (un_no s hs _ (kept hd hm0.below)) (fun w3 hm4 => ?_))
  simp only [List.setIfInBounds_toArray, List.set_cons_zero, List.set_cons_succ]
  refine lst (wanted_none rfl) (w_value 14 (.tuple #[.agg (pt 0 0 0 0), .bool false]) rfl (run_mv rfl rfl) ?_)
  simp only [List.setIfInBounds_toArray, List.set_cons_zero, List.set_cons_succ]
  refine lst (wanted_none rfl) (w_value 17 (.agg (pt 0 0 0 0)) rfl (run_ex rfl rfl rfl) ?_)
  simp only [List.setIfInBounds_toArray, List.set_cons_zero, List.set_cons_succ]
  refine lst (wanted_none rfl) (w_value 18 (.bool false) rfl (run_ex rfl rfl rfl) ?_)
  simp only [List.setIfInBounds_toArray, List.set_cons_zero, List.set_cons_succ]
  refine lst (wanted_none rfl) (m_alloc (c := pt 0 0 0 0) (T := 25) hm4 7 rfl (al_P rfl) (fun g5 w6 (hm7 : Mm w w6 [(g5, pt 0 0 0 0, 25)]) => ?_))
  simp only [List.setIfInBounds_toArray, List.set_cons_zero, List.set_cons_succ]
  refine lst (wanted_none rfl) (m_store 0 25 _ _ (pt 0 0 0 0) (old := pt 0 0 0 0) hm7 rfl rfl rfl rfl rfl (by rw [pt_sz]; exact info_p) ((pt_sz _ _ _ _).trans (pt_sz _ _ _ _).symm) (pt_one _ _ _ _) (fun w8 (hm9 : Mm w w8 [(g5, pt 0 0 0 0, 25)]) => ?_))
  refine lst (wanted_none rfl) (w_value 8 (.bool false) rfl (run_as rfl rfl) ?_)
  simp only [List.setIfInBounds_toArray, List.set_cons_zero, List.set_cons_succ]
  refine wpList_nil ?_
  refine then_n (hK2 _ _ ?_)
  refine wp_seq_k (fun K10 hK10 => ?_)
  refine wp_seq_k (fun K11 hK11 => ?_)
  refine wp_region_lit ?_
  refine lst (wanted_none rfl) (w_value 19 (.bool false) rfl (run_mv rfl rfl) ?_)
  simp only [List.setIfInBounds_toArray, List.set_cons_zero, List.set_cons_succ]
  refine lst (wanted_none rfl) (w_value 20 (.bool true) rfl (r_not false rfl rfl) ?_)
  simp only [List.setIfInBounds_toArray, List.set_cons_zero, List.set_cons_succ]
  refine wpList_nil ?_
  refine then_n (hK11 _ _ ?_)
  refine cond_t rfl ?_
  refine wp_seq_k (fun K12 hK12 => ?_)
  refine wp_region_lit ?_
  refine lst (wanted_none rfl) (m_call hm9 21 (.bool true) rfl (run_awake5 rfl) (awake5_any _ (kept hd hm9.below)) (fun w13 hm14 => ?_))
  simp only [List.setIfInBounds_toArray, List.set_cons_zero, List.set_cons_succ]
  refine lst (wanted_none rfl) (w_value 6 (.bool true) rfl (run_as rfl rfl) ?_)
  simp only [List.setIfInBounds_toArray, List.set_cons_zero, List.set_cons_succ]
  refine wpList_nil ?_
  refine then_n (hK12 _ _ ?_)
  refine wp_ret ?_
  refine then_r ?_
  exact ⟨rfl, .bool true, res_t rfl rfl, ⟨rfl, hm14.below⟩⟩
theorem walk (s : ByteArray) (n : Nat) (hn : n < 65536) (m : Nat) (hm : m < 65536) (w : World) (hd : DD w) : Calls Tryd.prog 7 #[.string s, .int .u16 ((n : Nat) : Int), .int .u16 ((m : Nat) : Int)] w (fun e w' => e = .returned (.bool true) ∧ Below w.heap.size w w') := by
  cases h : unP s with
  | none => exact walk_none s h n m hn hm w hd
  | some p =>
    obtain ⟨P, hR, _⟩ := unP_R h
    exact walk_some s p h (unP_ok h) n m hn hm (l_spread hR n m (Nat.lt_trans hn (by decide)) (Nat.lt_trans hm (by decide)) (Nat.lt_of_lt_of_le (Nat.add_lt_add hn hm) (by decide))) l_order w hd
set_option maxRecDepth 100000 in
theorem lifted (os : Os) (started : os.Started) (H : Type) (enc : TypeId × Value → H) :
    ReturnsInHanded {} Tryd.checked os 7 .any (fun w args => (Rows.pointSpreadsSpec.pre enc Tryd.prog Tryd.f7 [] false w args ∧ laidMetH Tryd.prog dLaid w) ∧ sizedMet enc Tryd.prog Tryd.f7 (OpenSpec.ofChange Rows.pointSpreadsSpec) false w args) (Rows.pointSpreadsSpec.post enc Tryd.prog Tryd.f7 false true false false) := by
  refine handed (X := fun w _ => laidMetH Tryd.prog dLaid w) (fun _ _ _ hh h => h.of_heap hh) own started (by kernel_rfl) Tryd.func7
    (ChangeSpec.witness_shaped (enc := enc) (C := Tryd.checked) (os := os) (X := fun w _ => laidMetH Tryd.prog dLaid w) false (World.doorLaid Tryd.prog 400 os) #[.string .empty, .int .u16 0, .int .u16 0] 8 rfl (World.shaped_of_RefB (by kernel_rfl) (by kernel_rfl)) (by kernel_rfl) (by kernel_rfl) (by kernel_rfl) (met_d os _)) ?_
  intro W base args ds gs before hval0 hW hL hS
  have hval : ∀ (j : Nat) t v, Tryd.f7.params[j]? = some t → args[j]? = some v → Value.okWide Tryd.prog W .any base t v := hval0
  have hW' := hW
  obtain ⟨p, q, hA0, hV, rfl, hfz, hnd⟩ := hW
  have hA : DataW.TrodAll enc Tryd.prog W 0 (fun _ => true) true Tryd.f7.params.toList args.toList ds p := hA0
  rw [Tryd.params7] at hA hval
  obtain ⟨v0, vs0, d0, ds0, p0, q0, hargs, rfl, rfl, h0, r0⟩ := trodAll_cons hA
  obtain ⟨v1, vs1, d1, ds1, p1, q1, rfl, rfl, rfl, h1, r1⟩ := trodAll_cons r0
  obtain ⟨v2, vs2, d2, ds2, p2, q2, rfl, rfl, rfl, h2, r2⟩ := trodAll_cons r1
  obtain ⟨rfl, rfl, rfl⟩ := trodAll_nil r2
  obtain rfl : args = #[v0, v1, v2] := by cases args; simp_all
  obtain ⟨rfl, rfl⟩ := trodVars_none hV
  obtain ⟨a0, rfl, rfl, rfl, m0⟩ := open_string Tryd.underlying9 (hval 0 9 v0 rfl rfl) h0
  obtain ⟨a1, rfl, rfl, rfl, m1⟩ := open_int Tryd.underlying39 (hval 1 39 v1 rfl rfl) h1
  obtain ⟨b1, l1, rfl⟩ := nat_u16 m1
  obtain ⟨a2, rfl, rfl, rfl, m2⟩ := open_int Tryd.underlying39 (hval 2 39 v2 rfl rfl) h2
  obtain ⟨b2, l2, rfl⟩ := nat_u16 m2
  clear hA0 hval0
  simp only [List.append_nil] at hW'
  refine (walk a0 b1 l1 b2 l2 W (of_d hS hL)).mono fun e W' ⟨he, hg⟩ => ?_
  subst he
  exact ⟨_, rfl, _, _, _, [], [], [], hW', (trodAll_cons_mk (shut_bool Tryd.underlying4 _) trodAll_mk0), (trodAll_cons_mk (shut_string Tryd.underlying9 m0) (trodAll_cons_mk (shut_int Tryd.underlying39 m1) (trodAll_cons_mk (shut_int Tryd.underlying39 m2) trodAll_mk0))), rfl, hg.frame _, fun h => by cases h⟩

theorem over : Rows.pointSpreadsRow.holds Tryd.pinned (OpenSpec.ofChange Rows.pointSpreadsSpec) :=
  OpenClaim.holds_of_wide 7 Tryd.f7 rfl rfl rfl rfl rfl rfl rfl ⟨rfl, rfl, rfl, rfl, rfl⟩ rfl rfl rfl rfl rfl (by kernel_rfl) Tryd.func7 (by kernel_rfl)
    (of_decide_eq_true (by kernel_rfl)) (by unfold Func.isWrapper; first | (rw [if_pos (by decide +kernel)]; kernel_rfl) | (rw [if_neg (by decide +kernel)]; exact ⟨rfl, rfl⟩))
    (fun os started H enc _ => lifted os started H enc)

/-- The statement: the tied card. -/
theorem proved : Rows.PointSpreadsCardSaid :=
  Claim7.holds_tied_plain_at .later [] [.data] true (true, "fc2542975b301c68a361b8d8db791a19a70359d4a606d8fae6164062f6963a2a") false
    over (fun _ h => by cases h) (by kernel_rfl) (fun _ h => by cases h) pointSpreads_row_tie rfl ⟨rfl, rfl⟩ (by kernel_rfl) rfl
    (fun f fn hf hfn => by
      obtain rfl : f = 7 := Option.some.inj ((show Tryd.prog.funcNamed "holdall/holdalllaw05.PointSpreads" = some 7 by kernel_rfl).symm.trans hf) |>.symm
      obtain rfl : fn = Tryd.f7 := (Option.some.inj (Tryd.func7.symm.trans hfn)).symm
      exact ⟨by kernel_rfl, fun j t ht => by
        rw [Tryd.params7] at ht
        have hm : t ∈ [9, 39, 39] := by simpa using Array.mem_of_getElem? ht
        have hall : ([9, 39, 39].all fun u => !Tryd.prog.wantsStandIn u) = true := by kernel_rfl
        exact (show Tryd.prog.wantsStandIn t = false by simpa using List.all_eq_true.1 hall t hm)⟩)
    (by kernel_rfl)
#print axioms proved
end Go.Proofs.YtfpphinnngblgaaDoor.pointSpreads
