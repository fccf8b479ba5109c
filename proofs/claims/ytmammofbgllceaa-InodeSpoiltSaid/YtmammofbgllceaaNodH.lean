/- Layer 17: the document's example. -/
import Derived.Test.YtmammofbgllceaaNodG
namespace Go.Proofs.Ytmammofbgllceaa.Nod
open Go.RowKit
open Go.Proofs.Ytmammofbgllceaa.Sym Go.Proofs.Ytmammofbgllceaa.Mem
open Go.Proofs.Ytmammofbgllceaa.Sx hiding Mm m_alloc m_store m_put m_call m_callx m_make m_append r_string r_ixS

def exN : Nd := ⟨1, 420, 0, 0, 0, 1, 3, [9]⟩
def exS : List UInt8 := bytesN exN
def exP : List (List UInt8 × Int) := [([97], 1), ([98], 2)]
def exL : List UInt8 := listN exP
theorem ex_check : CheckP exN := by decide +kernel
theorem ex_bytes : bytesR exN = exS := if_pos ex_check
theorem ex_err : errR exN = 0 := if_pos ex_check
theorem ex_good : goodR exS := by decide +kernel
theorem ex_raw : rawN exS = exN := by
  have h : (rawN exS).kind = 1 ∧ (rawN exS).mode = 420 ∧ (rawN exS).uid = 0 ∧ (rawN exS).gid = 0 ∧ (rawN exS).time = 0 ∧ (rawN exS).links = 1 ∧ (rawN exS).size = 3 ∧ (rawN exS).blocks = [9] := by decide +kernel
  obtain ⟨h1, h2, h3, h4, h5, h6, h7, h8⟩ := h
  cases hr : rawN exS
  rw [hr] at h1 h2 h3 h4 h5 h6 h7 h8
  subst h1 h2 h3 h4 h5 h6 h7 h8
  rfl
theorem ex_read : readN exS = exN := by rw [readN, if_pos ex_good, ex_raw]
theorem ex_rerr : errRd exS = 0 := if_pos ex_good
theorem ex_names : namesL exL [] = some exP := by
  rw [← rest_0 exL, rest_on (acc := []) (t := exL) (last := []) (by decide +kernel) (by decide +kernel) (by decide +kernel) (by decide +kernel),
    rest_on (by decide +kernel) (by decide +kernel) (by decide +kernel) (by decide +kernel), show (exL.drop (5 + by' exL 4)).drop (5 + by' (exL.drop (5 + by' exL 4)) 4) = [] by decide +kernel, rest_end]
  decide +kernel
theorem bytes_ex (v : Value) (w : World) (hb : Rd w v 1 1 [Value.int .i64 9]) : Calls Try.prog 27 #[.agg #[.int .i64 1, .int .i64 420, .int .i64 0, .int .i64 0, .int .i64 0, .int .i64 1, .int .i64 3, v]] w (fun e w' => e = .returned (.tuple #[.string (tx exS), .int .i64 0]) ∧ Below w.heap.size w w') := by
  have h := bytes_any exN v w hb
  rw [ex_bytes, ex_err] at h
  exact h
theorem read_ex (w : World) : Calls Try.prog 29 #[.string (tx exS)] w (fun e w' => (∃ v, e = .returned (.tuple #[.agg #[.int .i64 1, .int .i64 420, .int .i64 0, .int .i64 0, .int .i64 0, .int .i64 1, .int .i64 3, v], .int .i64 0]) ∧ w'.ownsRow w.heap.size 3 1 v 1 [Value.int .i64 9]) ∧ Below w.heap.size w w') := by
  have h := read_any exS w
  rw [ex_read, ex_rerr] at h
  exact h
theorem list_ex (v : Value) (w : World) (hb : Rd w v 2 2 [Value.string (tx [97]), Value.int .i64 1, Value.string (tx [98]), Value.int .i64 2]) : Calls Try.prog 38 #[v] w (fun e w' => e = .returned (.string (tx exL)) ∧ Below w.heap.size w w') :=
  list_any exP v w hb (by decide +kernel)
theorem names_ex (w : World) : Calls Try.prog 35 #[.string (tx exL)] w (fun e w' => (∃ v, e = .returned (.tuple #[v, .bool true]) ∧ w'.ownsRow w.heap.size 65 2 v 2 (exP.flatMap pv)) ∧ Below w.heap.size w w') := by
  have h := names_any exL (by decide +kernel) w
  rw [ex_names] at h
  exact h
theorem sec_257 (w : World) : Calls Try.prog 52 #[.int .i64 257] w (fun e w' => e = .returned (.int .i64 2) ∧ Below w.heap.size w w') :=
  sectors_any 257 (by decide) (by decide) w
set_option maxHeartbeats 4000000 in
set_option maxRecDepth 100000 in
theorem nodes_100 (w : World) : Calls Try.prog 53 #[.int .i64 100] w (fun e w' => e = .returned (.int .i64 25) ∧ Below w.heap.size w w') := by
  go_enter Try.func53, Try.ntmps53
  have hm0 := Mm.nil none w
  refine wp_seq_k (fun K1 hK1 => ?_)
  refine wp_region_lit ?_
  refine lv 2 (.int .i64 0) rfl rfl (run_as rfl rfl) ?_
  simp only [nz1, nz2, nz3]
  refine wpList_nil ?_
  refine then_n (hK1 _ _ ?_)
  refine wp_seq_k (fun K2 hK2 => ?_)
  refine wp_region_lit ?_
  refine lv 3 (.int .i64 100) rfl rfl (run_mv rfl rfl) ?_
  simp only [nz1, nz2, nz3]
  refine lv 4 (.int .i64 25) rfl rfl (r_quo 100 4 (by decide) (by decide) rfl rfl rfl) ?_
  simp only [nz1, nz2, nz3]
  refine lv 2 (.int .i64 25) rfl rfl (run_as rfl rfl) ?_
  simp only [nz1, nz2, nz3]
  refine wpList_nil ?_
  refine then_n (hK2 _ _ ?_)
  refine wp_ret ?_
  exact ⟨rfl, .int .i64 25, res_t rfl rfl, ⟨rfl, hm0.below⟩⟩
set_option maxHeartbeats 4000000 in
set_option maxRecDepth 100000 in
theorem awake_any (w : World) : Calls Try.prog 30 #[] w (fun e w' => e = .returned (.bool true) ∧ Below w.heap.size w w') := by
  go_enter Try.func30, Try.ntmps30
  have hm0 := Mm.nil none w
  refine wp_seq_k (fun K1 hK1 => ?_)
  refine wp_region_lit ?_
  refine lv 0 (.bool false) rfl rfl (run_as rfl rfl) ?_
  simp only [nz1, nz2]
  refine wpList_nil ?_
  refine then_n (hK1 _ _ ?_)
  refine wp_seq_k (fun K2 hK2 => ?_)
  refine wp_region_lit ?_
  refine lst (wanted_none rfl) (m_make (c := #[.int .i64 9]) (T := 3) (fun g => .slice (some ⟨g, 0, none⟩) 1 1) hm0 8 rfl (by unfold execOp; go_simp; try rfl) (fun g5 w3 (hm4 : Mm none w w3 [.blk g5 #[.int .i64 9] 3]) => ?_))
  simp only [nz1, nz2, nz3]
  refine lv 9 (.agg #[.int .i64 1, .int .i64 420, .int .i64 0, .int .i64 0, .int .i64 0, .int .i64 1, .int .i64 3, .slice (some ⟨g5, 0, none⟩) 1 1]) rfl rfl (by unfold execOp; go_simp; try rfl) ?_
  simp only [nz1, nz2, nz3]
  refine lst (wanted_none rfl) (m_call hm4 10 (.tuple #[.string (tx exS), .int .i64 0]) rfl (run_Bytes rfl rfl) (bytes_ex (.slice (some ⟨g5, 0, none⟩) 1 1) _ (Rd.of_blk (hm4.at 0 rfl) rfl)) (fun w6 (hm7 : Mm none w w6 [.blk g5 #[.int .i64 9] 3]) => ?_))
  simp only [nz1, nz2, nz3]
  refine lv 7 (.tuple #[.string (tx exS), .int .i64 0]) rfl rfl (run_mv rfl rfl) ?_
  simp only [nz1, nz2, nz3]
  refine lv 11 (.string (tx exS)) rfl rfl (run_ex rfl rfl rfl) ?_
  simp only [nz1, nz2, nz3]
  refine lv 12 (.int .i64 0) rfl rfl (run_ex rfl rfl rfl) ?_
  simp only [nz1, nz2, nz3]
  refine lv 1 (.string (tx exS)) rfl rfl (run_as rfl rfl) ?_
  simp only [nz1, nz2, nz3]
  refine lv 2 (.int .i64 0) rfl rfl (run_as rfl rfl) ?_
  simp only [nz1, nz2, nz3]
  refine wpList_nil ?_
  refine then_n (hK2 _ _ ?_)
  refine wp_seq_k (fun K8 hK8 => ?_)
  refine wp_region_lit ?_
  refine lv 14 (.string (tx exS)) rfl rfl (run_mv rfl rfl) ?_
  simp only [nz1, nz2, nz3]
  refine lst (wanted_none rfl) (m_callx hm7 15 rfl (run_Read rfl rfl) (calls_row (F := fun v => .tuple #[.agg #[.int .i64 1, .int .i64 420, .int .i64 0, .int .i64 0, .int .i64 0, .int .i64 1, .int .i64 3, v], .int .i64 0]) (read_ex _)) (fun vv14 w9 hR12 hb13 hm10 => ?_))
  obtain ⟨q11, rfl, hq15⟩ := hR12
  have hm16 : Mm none w w9 [.blk g5 #[.int .i64 9] 3, .row q11 1 ([Value.int .i64 9]) 3 1] := hm7.gained hb13 hq15
  clear hm10
  simp only [nz1, nz2, nz3]
  refine lv 13 (.tuple #[.agg #[.int .i64 1, .int .i64 420, .int .i64 0, .int .i64 0, .int .i64 0, .int .i64 1, .int .i64 3, q11], .int .i64 0]) rfl rfl (run_mv rfl rfl) ?_
  simp only [nz1, nz2, nz3]
  refine lv 16 (.agg #[.int .i64 1, .int .i64 420, .int .i64 0, .int .i64 0, .int .i64 0, .int .i64 1, .int .i64 3, q11]) rfl rfl (run_ex rfl rfl rfl) ?_
  simp only [nz1, nz2, nz3]
  refine lv 17 (.int .i64 0) rfl rfl (run_ex rfl rfl rfl) ?_
  simp only [nz1, nz2, nz3]
  refine lst (wanted_none rfl) (m_alloc (c := #[.int .i64 0, .int .i64 0, .int .i64 0, .int .i64 0, .int .i64 0, .int .i64 0, .int .i64 0, .slice none 0 0]) (T := 48) hm16 3 rfl (by unfold execOp; go_simp; try rfl) (fun g19 w17 (hm18 : Mm none w w17 [.blk g5 #[.int .i64 9] 3, .row q11 1 ([Value.int .i64 9]) 3 1, .blk g19 #[.int .i64 0, .int .i64 0, .int .i64 0, .int .i64 0, .int .i64 0, .int .i64 0, .int .i64 0, .slice none 0 0] 48]) => ?_))
  simp only [nz1, nz2, nz3]
  have ho22 := own_one (hm18.row 1 rfl)
  refine lst (wanted_none rfl) (m_store 2 48 _ _ 0 (.agg #[.int .i64 1, .int .i64 420, .int .i64 0, .int .i64 0, .int .i64 0, .int .i64 1, .int .i64 3, q11]) (old := #[.int .i64 0, .int .i64 0, .int .i64 0, .int .i64 0, .int .i64 0, .int .i64 0, .int .i64 0, .slice none 0 0]) (new := #[.int .i64 1, .int .i64 420, .int .i64 0, .int .i64 0, .int .i64 0, .int .i64 1, .int .i64 3, q11]) hm18 rfl rfl rfl rfl rfl (by exact sz_node) (show 8 ≤ 8 from Nat.le_refl _) (by rw [Array.all_eq_true_iff_forall_mem]; intro x hx; simp only [Value.cells, List.mem_toArray, List.mem_cons, List.not_mem_nil, or_false] at hx; rcases hx with rfl | rfl | rfl | rfl | rfl | rfl | rfl | rfl <;> first | rfl | assumption) rfl (fun w20 (hm21 : Mm none w w20 [.blk g5 #[.int .i64 9] 3, .row q11 1 ([Value.int .i64 9]) 3 1, .blk g19 #[.int .i64 1, .int .i64 420, .int .i64 0, .int .i64 0, .int .i64 0, .int .i64 1, .int .i64 3, q11] 48]) => ?_))
  refine lv 4 (.int .i64 0) rfl rfl (run_as rfl rfl) ?_
  simp only [nz1, nz2, nz3]
  refine wpList_nil ?_
  refine then_n (hK8 _ _ ?_)
  refine wp_seq_k (fun K23 hK23 => ?_)
  refine wp_region_lit ?_
  refine lv 19 (.agg #[.string (tx ([97])), .int .i64 1]) rfl rfl (by unfold execOp; go_simp; try rfl) ?_
  simp only [nz1, nz2, nz3]
  refine lv 20 (.agg #[.string (tx ([98])), .int .i64 2]) rfl rfl (by unfold execOp; go_simp; try rfl) ?_
  simp only [nz1, nz2, nz3]
  refine lst (wanted_none rfl) (m_make (c := #[.string (tx ([97])), .int .i64 1, .string (tx ([98])), .int .i64 2]) (T := 65) (fun g => .slice (some ⟨g, 0, none⟩) 2 2) hm21 21 rfl (by unfold execOp; go_simp; try rfl) (fun g26 w24 (hm25 : Mm none w w24 [.blk g5 #[.int .i64 9] 3, .row q11 1 ([Value.int .i64 9]) 3 1, .blk g19 #[.int .i64 1, .int .i64 420, .int .i64 0, .int .i64 0, .int .i64 0, .int .i64 1, .int .i64 3, q11] 48, .blk g26 #[.string (tx ([97])), .int .i64 1, .string (tx ([98])), .int .i64 2] 65]) => ?_))
  simp only [nz1, nz2, nz3]
  refine lst (wanted_none rfl) (m_call hm25 22 (.string (tx exL)) rfl (run_List rfl rfl) (list_ex (.slice (some ⟨g26, 0, none⟩) 2 2) _ (Rd.of_blk (hm25.at 3 rfl) rfl)) (fun w27 (hm28 : Mm none w w27 [.blk g5 #[.int .i64 9] 3, .row q11 1 ([Value.int .i64 9]) 3 1, .blk g19 #[.int .i64 1, .int .i64 420, .int .i64 0, .int .i64 0, .int .i64 0, .int .i64 1, .int .i64 3, q11] 48, .blk g26 #[.string (tx ([97])), .int .i64 1, .string (tx ([98])), .int .i64 2] 65]) => ?_))
  simp only [nz1, nz2, nz3]
  refine lst (wanted_none rfl) (m_callx hm28 23 rfl (run_Names rfl rfl) (calls_row (F := fun v => .tuple #[v, .bool true]) (names_ex _)) (fun vv34 w29 hR32 hb33 hm30 => ?_))
  obtain ⟨q31, rfl, hq35⟩ := hR32
  have hm36 : Mm none w w29 [.blk g5 #[.int .i64 9] 3, .row q11 1 ([Value.int .i64 9]) 3 1, .blk g19 #[.int .i64 1, .int .i64 420, .int .i64 0, .int .i64 0, .int .i64 0, .int .i64 1, .int .i64 3, q11] 48, .blk g26 #[.string (tx ([97])), .int .i64 1, .string (tx ([98])), .int .i64 2] 65, .row q31 2 (exP.flatMap pv) 65 2] := hm28.gained hb33 hq35
  clear hm30
  simp only [nz1, nz2, nz3]
  refine lv 18 (.tuple #[q31, .bool true]) rfl rfl (run_mv rfl rfl) ?_
  simp only [nz1, nz2, nz3]
  refine lv 24 (q31) rfl rfl (run_ex rfl rfl rfl) ?_
  simp only [nz1, nz2, nz3]
  refine lv 25 (.bool true) rfl rfl (run_ex rfl rfl rfl) ?_
  simp only [nz1, nz2, nz3]
  refine lv 5 (q31) rfl rfl (run_as rfl rfl) ?_
  simp only [nz1, nz2, nz3]
  refine lv 6 (.bool true) rfl rfl (run_as rfl rfl) ?_
  simp only [nz1, nz2, nz3]
  refine wpList_nil ?_
  refine then_n (hK23 _ _ ?_)
  refine wp_seq_k (fun K37 hK37 => ?_)
  refine wp_region_lit ?_
  refine lv 26 (.int .i64 0) rfl rfl (run_mv rfl rfl) ?_
  simp only [nz1, nz2, nz3]
  refine lv 27 (.bool true) rfl rfl (n_eqt 0 0 rfl rfl rfl rfl) ?_
  simp only [nz1, nz2, nz3]
  refine lv 28 (.bool true) rfl rfl (run_mv rfl rfl) ?_
  simp only [nz1, nz2, nz3]
  refine lst rfl (w_value 29 (.string (tx exS)) rfl (run_mv rfl rfl) ?_)
  simp only [nz1, nz2, nz3]
  refine lst rfl (w_value 30 (.int .i64 ((exS.length : Nat) : Int)) rfl (t_len rfl Try.underlying9 rfl) ?_)
  simp only [nz1, nz2, nz3]
  refine lst rfl (w_value 31 (.bool true) rfl (n_eqt exS.length 256 (by decide +kernel) rfl rfl rfl) ?_)
  simp only [nz1, nz2, nz3]
  refine lv 32 (.bool true) rfl rfl (run_pick rfl rfl rfl) ?_
  simp only [nz1, nz2, nz3]
  refine lv 33 (.bool true) rfl rfl (run_mv rfl rfl) ?_
  simp only [nz1, nz2, nz3]
  refine lst rfl (w_value 34 (.string (tx exS)) rfl (run_mv rfl rfl) ?_)
  simp only [nz1, nz2, nz3]
  refine lst rfl (w_value 35 (.int .u8 ((by' exS 0 : Nat) : Int)) rfl (t_char exS 0 (by decide +kernel) Try.underlying9 rfl rfl rfl) ?_)
  simp only [nz1, nz2, nz3]
  refine lst rfl (w_value 36 (.bool true) rfl (n_eqt (by' exS 0) 1 (by decide +kernel) rfl rfl rfl) ?_)
  simp only [nz1, nz2, nz3]
  refine lv 37 (.bool true) rfl rfl (run_pick rfl rfl rfl) ?_
  simp only [nz1, nz2, nz3]
  refine lv 38 (.bool true) rfl rfl (run_mv rfl rfl) ?_
  simp only [nz1, nz2, nz3]
  refine lst rfl (w_value 39 (.string (tx exS)) rfl (run_mv rfl rfl) ?_)
  simp only [nz1, nz2, nz3]
  refine lst rfl (w_value 40 (.int .u8 ((by' exS 31 : Nat) : Int)) rfl (t_char exS 31 (by decide +kernel) Try.underlying9 rfl rfl rfl) ?_)
  simp only [nz1, nz2, nz3]
  refine lst rfl (w_value 41 (.bool true) rfl (n_eqt (by' exS 31) 9 (by decide +kernel) rfl rfl rfl) ?_)
  simp only [nz1, nz2, nz3]
  refine lv 42 (.bool true) rfl rfl (run_pick rfl rfl rfl) ?_
  simp only [nz1, nz2, nz3]
  refine lv 43 (.bool true) rfl rfl (run_mv rfl rfl) ?_
  simp only [nz1, nz2, nz3]
  refine lst rfl (w_value 44 (.int .i64 0) rfl (run_mv rfl rfl) ?_)
  simp only [nz1, nz2, nz3]
  refine lst rfl (w_value 45 (.bool true) rfl (n_eqt 0 0 rfl rfl rfl rfl) ?_)
  simp only [nz1, nz2, nz3]
  refine lv 46 (.bool true) rfl rfl (run_pick rfl rfl rfl) ?_
  simp only [nz1, nz2, nz3]
  refine lv 47 (.bool true) rfl rfl (run_mv rfl rfl) ?_
  simp only [nz1, nz2, nz3]
  refine lst rfl (w_value 48 (.pointer (some ⟨g19, 6, none⟩)) rfl (r_fa48_6 g19 0 rfl rfl) ?_)
  simp only [nz1, nz2, nz3]
  refine lst rfl (w_value 49 (.int .i64 3) rfl (r_load (hm36.at 2 rfl) rfl Try.underlying3 rfl rfl rfl) ?_)
  simp only [nz1, nz2, nz3]
  refine lst rfl (w_value 50 (.bool true) rfl (n_eqt 3 3 rfl rfl rfl rfl) ?_)
  simp only [nz1, nz2, nz3]
  refine lv 51 (.bool true) rfl rfl (run_pick rfl rfl rfl) ?_
  simp only [nz1, nz2, nz3]
  refine lv 52 (.bool true) rfl rfl (run_mv rfl rfl) ?_
  simp only [nz1, nz2, nz3]
  refine lst rfl (w_value 53 (.bool true) rfl (run_mv rfl rfl) ?_)
  simp only [nz1, nz2, nz3]
  refine lv 54 (.bool true) rfl rfl (run_pick rfl rfl rfl) ?_
  simp only [nz1, nz2, nz3]
  refine lv 55 (.bool true) rfl rfl (run_mv rfl rfl) ?_
  simp only [nz1, nz2, nz3]
  refine lst rfl (w_value 56 (q31) rfl (run_mv rfl rfl) ?_)
  simp only [nz1, nz2, nz3]
  refine lst rfl (w_value 57 (.int .i64 2) rfl (s_len (Rd.of_row (hm36.row 4 rfl)) rfl Try.underlying60 rfl) ?_)
  simp only [nz1, nz2, nz3]
  refine lst rfl (w_value 58 (.bool true) rfl (n_eqt 2 2 rfl rfl rfl rfl) ?_)
  simp only [nz1, nz2, nz3]
  refine lv 59 (.bool true) rfl rfl (run_pick rfl rfl rfl) ?_
  simp only [nz1, nz2, nz3]
  refine lv 60 (.bool true) rfl rfl (run_mv rfl rfl) ?_
  simp only [nz1, nz2, nz3]
  refine lst rfl (m_call hm36 61 (.int .i64 2) rfl (run_Sectors rfl rfl) (sec_257 _) (fun w38 (hm39 : Mm none w w38 [.blk g5 #[.int .i64 9] 3, .row q11 1 ([Value.int .i64 9]) 3 1, .blk g19 #[.int .i64 1, .int .i64 420, .int .i64 0, .int .i64 0, .int .i64 0, .int .i64 1, .int .i64 3, q11] 48, .blk g26 #[.string (tx ([97])), .int .i64 1, .string (tx ([98])), .int .i64 2] 65, .row q31 2 (exP.flatMap pv) 65 2]) => ?_))
  simp only [nz1, nz2, nz3]
  refine lst rfl (w_value 62 (.bool true) rfl (n_eqt 2 2 rfl rfl rfl rfl) ?_)
  simp only [nz1, nz2, nz3]
  refine lv 63 (.bool true) rfl rfl (run_pick rfl rfl rfl) ?_
  simp only [nz1, nz2, nz3]
  refine lv 64 (.bool true) rfl rfl (run_mv rfl rfl) ?_
  simp only [nz1, nz2, nz3]
  refine lst rfl (m_call hm39 65 (.int .i64 25) rfl (run_Nodes rfl rfl) (nodes_100 _) (fun w40 (hm41 : Mm none w w40 [.blk g5 #[.int .i64 9] 3, .row q11 1 ([Value.int .i64 9]) 3 1, .blk g19 #[.int .i64 1, .int .i64 420, .int .i64 0, .int .i64 0, .int .i64 0, .int .i64 1, .int .i64 3, q11] 48, .blk g26 #[.string (tx ([97])), .int .i64 1, .string (tx ([98])), .int .i64 2] 65, .row q31 2 (exP.flatMap pv) 65 2]) => ?_))
  simp only [nz1, nz2, nz3]
  refine lst rfl (w_value 66 (.bool true) rfl (n_eqt 25 25 rfl rfl rfl rfl) ?_)
  simp only [nz1, nz2, nz3]
  refine lv 67 (.bool true) rfl rfl (run_pick rfl rfl rfl) ?_
  simp only [nz1, nz2, nz3]
  refine lv 0 (.bool true) rfl rfl (run_as rfl rfl) ?_
  simp only [nz1, nz2]
  refine wpList_nil ?_
  refine then_n (hK37 _ _ ?_)
  refine wp_ret ?_
  exact ⟨rfl, .bool true, res_t rfl rfl, ⟨rfl, hm41.below⟩⟩
end Go.Proofs.Ytmammofbgllceaa.Nod
