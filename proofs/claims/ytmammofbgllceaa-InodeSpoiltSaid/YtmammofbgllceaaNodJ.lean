/- Layer 17: a node's sector and two nodes, the document's. -/
import Derived.Test.YtmammofbgllceaaNodI
namespace Go.Proofs.Ytmammofbgllceaa.Nod
open Go.RowKit
open Go.Proofs.Ytmammofbgllceaa.Sym Go.Proofs.Ytmammofbgllceaa.Mem
open Go.Proofs.Ytmammofbgllceaa.Sx hiding Mm m_alloc m_store m_put m_call m_callx m_make m_append r_string r_ixS

theorem tail_len (x : Nd) (k : Nat) : (headN x ++ x.blocks.flatMap p4 ++ List.replicate k 0).length = 28 + 4 * x.blocks.length + k := by
  rw [List.length_append, body_len, List.length_replicate]
theorem z_neqf {P : Program} {o : Oper} {a : Act} {w : World} {x y : Operand} {T T' : TypeId} {k : IntKind} (n : Int) (ho : o.op = .binOp .neq T x y T') (hx : a.eval x = .int k n) (hy : a.eval y = .int k n) : (execOp a.eval o).run P w = .ok (.value (.bool false)) w := by
  have := z_neq (P := P) (w := w) n n ho hx hy
  rw [decide_eq_false (fun h => h rfl)] at this
  exact this
set_option maxHeartbeats 4000000 in
set_option maxRecDepth 100000 in
theorem rbytes_any (x : Nd) (v : Value) (w : World) (hb : Rd w v x.blocks.length 1 (x.blocks.map iv)) : Calls Try.prog 28 #[.agg #[.int .i64 (x.kind), .int .i64 (x.mode), .int .i64 (x.uid), .int .i64 (x.gid), .int .i64 (x.time), .int .i64 (x.links), .int .i64 (x.size), v]] w (fun e w' => e = .returned (.tuple #[.string (tx (bytesR x)), .int .i64 (errR x)]) ∧ Below w.heap.size w w') := by
  go_enter Try.func28, Try.ntmps28
  have hm0 := Mm.nil none w
  refine wp_seq_k (fun K1 hK1 => ?_)
  refine wp_region_lit ?_
  refine lst (wanted_none rfl) (m_alloc (c := #[.int .i64 (x.kind), .int .i64 (x.mode), .int .i64 (x.uid), .int .i64 (x.gid), .int .i64 (x.time), .int .i64 (x.links), .int .i64 (x.size), v]) (T := 48) hm0 1 rfl (run_box rfl rfl) (fun g4 w2 (hm3 : Mm none w w2 [.blk g4 #[.int .i64 (x.kind), .int .i64 (x.mode), .int .i64 (x.uid), .int .i64 (x.gid), .int .i64 (x.time), .int .i64 (x.links), .int .i64 (x.size), v] 48]) => ?_))
  simp only [nz1, nz2, nz3]
  refine lv 2 (.string (tx ([]))) rfl rfl (run_as rfl rfl) ?_
  simp only [nz1, nz2, nz3]
  refine lv 3 (.int .i64 0) rfl rfl (run_as rfl rfl) ?_
  simp only [nz1, nz2, nz3]
  refine wpList_nil ?_
  refine then_n (hK1 _ _ ?_)
  refine wp_seq_k (fun K5 hK5 => ?_)
  refine wp_seq_k (fun K6 hK6 => ?_)
  refine wp_region_lit ?_
  refine lv 6 (.agg #[.int .i64 (x.kind), .int .i64 (x.mode), .int .i64 (x.uid), .int .i64 (x.gid), .int .i64 (x.time), .int .i64 (x.links), .int .i64 (x.size), v]) rfl rfl (r_whole (hm3.at 0 rfl) Try.underlying48 rfl (by exact sz_node) rfl rfl) ?_
  simp only [nz1, nz2, nz3]
  refine lst (wanted_none rfl) (m_call hm3 7 (.bool (decide (CheckP x))) rfl (run_rCheck rfl rfl) (rcheck_any x v _ (hb.below hm3.below)) (fun w7 (hm8 : Mm none w w7 [.blk g4 #[.int .i64 (x.kind), .int .i64 (x.mode), .int .i64 (x.uid), .int .i64 (x.gid), .int .i64 (x.time), .int .i64 (x.links), .int .i64 (x.size), v] 48]) => ?_))
  simp only [nz1, nz2, nz3]
  refine lv 8 (.bool (decide (¬ (CheckP x)))) rfl rfl (r_notD (CheckP x) rfl rfl) ?_
  simp only [nz1, nz2, nz3]
  refine wpList_nil ?_
  refine then_n (hK6 _ _ ?_)
  refine cond_d (¬ (CheckP x)) rfl (fun hc9 => ?_) (fun hc9 => ?_)
  · rw [decide_eq_true hc9]
    refine wp_seq_k (fun K10 hK10 => ?_)
    refine wp_region_lit ?_
    refine lv 2 (.string (tx ([]))) rfl rfl (run_as rfl rfl) ?_
    simp only [nz1, nz2, nz3]
    refine lv 3 (.int .i64 1) rfl rfl (run_as rfl rfl) ?_
    simp only [nz1, nz2, nz3]
    refine wpList_nil ?_
    refine then_n (hK10 _ _ ?_)
    refine wp_ret ?_
    refine then_r ?_
    exact ⟨rfl, .tuple #[.string (tx ([])), .int .i64 1], res_tt rfl rfl rfl, ⟨by rw [show bytesR x = [] from if_neg hc9, show errR x = 1 from if_neg hc9], hm8.below⟩⟩
  rw [decide_eq_false hc9]
  have hck : CheckP x := Classical.not_not.1 hc9
  have hlen := check_len hck
  refine wp_skip ?_
  refine then_n (hK5 _ _ ?_)
  refine wp_seq_k (fun K11 hK11 => ?_)
  have hm12 := hm8.drew
  refine wp_region_held_drew (S := fun w' => Mem.Blk w' g4 (#[.int .i64 (x.kind), .int .i64 (x.mode), .int .i64 (x.uid), .int .i64 (x.gid), .int .i64 (x.time), .int .i64 (x.links), .int .i64 (x.size), v]) 48) (by kernel_rfl) (hm12.at 0 rfl) (fun _ => ?_)
  generalize w7.drew = w13 at *
  refine tk 0 9 (.pointer (some ⟨g4, 0, none⟩)) rfl rfl (fun _ hw => r_fa48_0 g4 0 rfl rfl) (hm12.at 0 rfl) ?_
  simp only [nz1, nz2, nz3]
  refine tk 1 10 (.int .i64 (x.kind)) rfl rfl (fun _ hw => r_load hw rfl Try.underlying3 rfl rfl rfl) (hm12.at 0 rfl) ?_
  simp only [nz1, nz2, nz3]
  refine tk 3 12 (.pointer (some ⟨g4, 1, none⟩)) rfl rfl (fun _ hw => r_fa48_1 g4 0 rfl rfl) (hm12.at 0 rfl) ?_
  simp only [nz1, nz2, nz3]
  refine tk 4 13 (.int .i64 (x.mode)) rfl rfl (fun _ hw => r_load hw rfl Try.underlying3 rfl rfl rfl) (hm12.at 0 rfl) ?_
  simp only [nz1, nz2, nz3]
  refine tk 7 16 (.pointer (some ⟨g4, 5, none⟩)) rfl rfl (fun _ hw => r_fa48_5 g4 0 rfl rfl) (hm12.at 0 rfl) ?_
  simp only [nz1, nz2, nz3]
  refine tk 8 17 (.int .i64 (x.links)) rfl rfl (fun _ hw => r_load hw rfl Try.underlying3 rfl rfl rfl) (hm12.at 0 rfl) ?_
  simp only [nz1, nz2, nz3]
  refine tk 11 20 (.pointer (some ⟨g4, 2, none⟩)) rfl rfl (fun _ hw => r_fa48_2 g4 0 rfl rfl) (hm12.at 0 rfl) ?_
  simp only [nz1, nz2, nz3]
  refine tk 12 21 (.int .i64 (x.uid)) rfl rfl (fun _ hw => r_load hw rfl Try.underlying3 rfl rfl rfl) (hm12.at 0 rfl) ?_
  simp only [nz1, nz2, nz3]
  refine tk 15 24 (.pointer (some ⟨g4, 3, none⟩)) rfl rfl (fun _ hw => r_fa48_3 g4 0 rfl rfl) (hm12.at 0 rfl) ?_
  simp only [nz1, nz2, nz3]
  refine tk 16 25 (.int .i64 (x.gid)) rfl rfl (fun _ hw => r_load hw rfl Try.underlying3 rfl rfl rfl) (hm12.at 0 rfl) ?_
  simp only [nz1, nz2, nz3]
  refine tk 19 28 (.pointer (some ⟨g4, 4, none⟩)) rfl rfl (fun _ hw => r_fa48_4 g4 0 rfl rfl) (hm12.at 0 rfl) ?_
  simp only [nz1, nz2, nz3]
  refine tk 20 29 (.int .i64 (x.time)) rfl rfl (fun _ hw => r_load hw rfl Try.underlying3 rfl rfl rfl) (hm12.at 0 rfl) ?_
  simp only [nz1, nz2, nz3]
  refine tk 23 32 (.pointer (some ⟨g4, 6, none⟩)) rfl rfl (fun _ hw => r_fa48_6 g4 0 rfl rfl) (hm12.at 0 rfl) ?_
  simp only [nz1, nz2, nz3]
  refine tk 24 33 (.int .i64 (x.size)) rfl rfl (fun _ hw => r_load hw rfl Try.underlying3 rfl rfl rfl) (hm12.at 0 rfl) ?_
  simp only [nz1, nz2, nz3]
  refine one_ready 2 (by kernel_rfl) ?_
  refine opd rfl (wanted_none rfl) (m_call hm12 11 (.string (tx (putL x.kind 1))) rfl (run_rput rfl rfl rfl) (rput_any x.kind 1 (by decide) _) (fun w14 (hm15 : Mm none w w14 [.blk g4 #[.int .i64 (x.kind), .int .i64 (x.mode), .int .i64 (x.uid), .int .i64 (x.gid), .int .i64 (x.time), .int .i64 (x.links), .int .i64 (x.size), v] 48]) => ?_))
  refine ⟨hm15.at 0 rfl, ?_⟩
  simp only [nz1, nz2, nz3]
  refine one_ready 5 (by kernel_rfl) ?_
  refine opd rfl (wanted_none rfl) (m_call hm15 14 (.string (tx (putL x.mode 2))) rfl (run_rput rfl rfl rfl) (rput_any x.mode 2 (by decide) _) (fun w16 (hm17 : Mm none w w16 [.blk g4 #[.int .i64 (x.kind), .int .i64 (x.mode), .int .i64 (x.uid), .int .i64 (x.gid), .int .i64 (x.time), .int .i64 (x.links), .int .i64 (x.size), v] 48]) => ?_))
  refine ⟨hm17.at 0 rfl, ?_⟩
  simp only [nz1, nz2, nz3]
  refine tk 6 15 (.string (tx ((putL x.kind 1) ++ (putL x.mode 2)))) rfl rfl (fun _ hw => t_cat (putL x.kind 1) (putL x.mode 2) (by simp [putL_length] <;> omega) rfl rfl rfl) (hm17.at 0 rfl) ?_
  simp only [nz1, nz2, nz3]
  refine one_ready 9 (by kernel_rfl) ?_
  refine opd rfl (wanted_none rfl) (m_call hm17 18 (.string (tx (putL x.links 4))) rfl (run_rput rfl rfl rfl) (rput_any x.links 4 (by decide) _) (fun w18 (hm19 : Mm none w w18 [.blk g4 #[.int .i64 (x.kind), .int .i64 (x.mode), .int .i64 (x.uid), .int .i64 (x.gid), .int .i64 (x.time), .int .i64 (x.links), .int .i64 (x.size), v] 48]) => ?_))
  refine ⟨hm19.at 0 rfl, ?_⟩
  simp only [nz1, nz2, nz3]
  refine tk 10 19 (.string (tx (((putL x.kind 1) ++ (putL x.mode 2)) ++ (putL x.links 4)))) rfl rfl (fun _ hw => t_cat ((putL x.kind 1) ++ (putL x.mode 2)) (putL x.links 4) (by simp [putL_length] <;> omega) rfl rfl rfl) (hm19.at 0 rfl) ?_
  simp only [nz1, nz2, nz3]
  refine one_ready 13 (by kernel_rfl) ?_
  refine opd rfl (wanted_none rfl) (m_call hm19 22 (.string (tx (putL x.uid 4))) rfl (run_rput rfl rfl rfl) (rput_any x.uid 4 (by decide) _) (fun w20 (hm21 : Mm none w w20 [.blk g4 #[.int .i64 (x.kind), .int .i64 (x.mode), .int .i64 (x.uid), .int .i64 (x.gid), .int .i64 (x.time), .int .i64 (x.links), .int .i64 (x.size), v] 48]) => ?_))
  refine ⟨hm21.at 0 rfl, ?_⟩
  simp only [nz1, nz2, nz3]
  refine tk 14 23 (.string (tx ((((putL x.kind 1) ++ (putL x.mode 2)) ++ (putL x.links 4)) ++ (putL x.uid 4)))) rfl rfl (fun _ hw => t_cat (((putL x.kind 1) ++ (putL x.mode 2)) ++ (putL x.links 4)) (putL x.uid 4) (by simp [putL_length] <;> omega) rfl rfl rfl) (hm21.at 0 rfl) ?_
  simp only [nz1, nz2, nz3]
  refine one_ready 17 (by kernel_rfl) ?_
  refine opd rfl (wanted_none rfl) (m_call hm21 26 (.string (tx (putL x.gid 4))) rfl (run_rput rfl rfl rfl) (rput_any x.gid 4 (by decide) _) (fun w22 (hm23 : Mm none w w22 [.blk g4 #[.int .i64 (x.kind), .int .i64 (x.mode), .int .i64 (x.uid), .int .i64 (x.gid), .int .i64 (x.time), .int .i64 (x.links), .int .i64 (x.size), v] 48]) => ?_))
  refine ⟨hm23.at 0 rfl, ?_⟩
  simp only [nz1, nz2, nz3]
  refine tk 18 27 (.string (tx (((((putL x.kind 1) ++ (putL x.mode 2)) ++ (putL x.links 4)) ++ (putL x.uid 4)) ++ (putL x.gid 4)))) rfl rfl (fun _ hw => t_cat ((((putL x.kind 1) ++ (putL x.mode 2)) ++ (putL x.links 4)) ++ (putL x.uid 4)) (putL x.gid 4) (by simp [putL_length] <;> omega) rfl rfl rfl) (hm23.at 0 rfl) ?_
  simp only [nz1, nz2, nz3]
  refine one_ready 21 (by kernel_rfl) ?_
  refine opd rfl (wanted_none rfl) (m_call hm23 30 (.string (tx (putL x.time 8))) rfl (run_rput rfl rfl rfl) (rput_any x.time 8 (by decide) _) (fun w24 (hm25 : Mm none w w24 [.blk g4 #[.int .i64 (x.kind), .int .i64 (x.mode), .int .i64 (x.uid), .int .i64 (x.gid), .int .i64 (x.time), .int .i64 (x.links), .int .i64 (x.size), v] 48]) => ?_))
  refine ⟨hm25.at 0 rfl, ?_⟩
  simp only [nz1, nz2, nz3]
  refine tk 22 31 (.string (tx ((((((putL x.kind 1) ++ (putL x.mode 2)) ++ (putL x.links 4)) ++ (putL x.uid 4)) ++ (putL x.gid 4)) ++ (putL x.time 8)))) rfl rfl (fun _ hw => t_cat (((((putL x.kind 1) ++ (putL x.mode 2)) ++ (putL x.links 4)) ++ (putL x.uid 4)) ++ (putL x.gid 4)) (putL x.time 8) (by simp [putL_length] <;> omega) rfl rfl rfl) (hm25.at 0 rfl) ?_
  simp only [nz1, nz2, nz3]
  refine one_ready 25 (by kernel_rfl) ?_
  refine opd rfl (wanted_none rfl) (m_call hm25 34 (.string (tx (putL x.size 4))) rfl (run_rput rfl rfl rfl) (rput_any x.size 4 (by decide) _) (fun w26 (hm27 : Mm none w w26 [.blk g4 #[.int .i64 (x.kind), .int .i64 (x.mode), .int .i64 (x.uid), .int .i64 (x.gid), .int .i64 (x.time), .int .i64 (x.links), .int .i64 (x.size), v] 48]) => ?_))
  refine ⟨hm27.at 0 rfl, ?_⟩
  simp only [nz1, nz2, nz3]
  refine tk 26 35 (.string (tx (((((((putL x.kind 1) ++ (putL x.mode 2)) ++ (putL x.links 4)) ++ (putL x.uid 4)) ++ (putL x.gid 4)) ++ (putL x.time 8)) ++ (putL x.size 4)))) rfl rfl (fun _ hw => t_cat ((((((putL x.kind 1) ++ (putL x.mode 2)) ++ (putL x.links 4)) ++ (putL x.uid 4)) ++ (putL x.gid 4)) ++ (putL x.time 8)) (putL x.size 4) (by simp [putL_length] <;> omega) rfl rfl rfl) (hm27.at 0 rfl) ?_
  simp only [nz1, nz2, nz3]
  refine tk 27 36 (.string (tx ((((((((putL x.kind 1) ++ (putL x.mode 2)) ++ (putL x.links 4)) ++ (putL x.uid 4)) ++ (putL x.gid 4)) ++ (putL x.time 8)) ++ (putL x.size 4)) ++ [0]))) rfl rfl (fun _ hw => t_cat (((((((putL x.kind 1) ++ (putL x.mode 2)) ++ (putL x.links 4)) ++ (putL x.uid 4)) ++ (putL x.gid 4)) ++ (putL x.time 8)) ++ (putL x.size 4)) ([0]) (by simp [putL_length] <;> omega) rfl rfl rfl) (hm27.at 0 rfl) ?_
  simp only [nz1, nz2, nz3]
  refine one_ready 28 (by kernel_rfl) ?_
  refine opd rfl (wanted_none rfl) (w_value 4 (.string (tx ((((((((putL x.kind 1) ++ (putL x.mode 2)) ++ (putL x.links 4)) ++ (putL x.uid 4)) ++ (putL x.gid 4)) ++ (putL x.time 8)) ++ (putL x.size 4)) ++ [0]))) rfl (run_as rfl rfl) ⟨hm27.at 0 rfl, ?_⟩)
  simp only [nz1, nz2, nz3]
  refine wpAnyH_done (by kernel_rfl) ?_ _
  rw [show ((.string (tx ((((((((putL x.kind 1) ++ (putL x.mode 2)) ++ (putL x.links 4)) ++ (putL x.uid 4)) ++ (putL x.gid 4)) ++ (putL x.time 8)) ++ (putL x.size 4)) ++ [0]))) : Value) = .string (tx (headN x ++ (x.blocks.take 0).flatMap p4)) from by rw [head_L]]
  refine then_n (hK11 _ _ ?_)
  refine wp_seq_k (fun K28 hK28 => ?_)
  refine wp_seq_k (fun K29 hK29 => ?_)
  refine wp_region_lit ?_
  refine lv 5 (.int .i64 0) rfl rfl (run_as rfl rfl) ?_
  simp only [nz1, nz2, nz3]
  refine wpList_nil ?_
  refine then_n (hK29 _ _ ?_)
  refine wp_block ?_
  refine wp_loop_n (fun n' a' w' => ∃ (i : Nat) (u0 : Nat → Value), n' = x.blocks.length - i ∧ (i ≤ x.blocks.length) ∧ a' = ⟨#[.agg #[.int .i64 (x.kind), .int .i64 (x.mode), .int .i64 (x.uid), .int .i64 (x.gid), .int .i64 (x.time), .int .i64 (x.links), .int .i64 (x.size), v], .pointer (some ⟨g4, 0, none⟩), .string (tx ([])), .int .i64 0, .string (tx (headN x ++ (x.blocks.take i).flatMap p4)), .int .i64 ((i : Nat) : Int), .agg #[.int .i64 (x.kind), .int .i64 (x.mode), .int .i64 (x.uid), .int .i64 (x.gid), .int .i64 (x.time), .int .i64 (x.links), .int .i64 (x.size), v], .bool (decide (CheckP x)), .bool false, .pointer (some ⟨g4, 0, none⟩), .int .i64 (x.kind), .string (tx (putL x.kind 1)), .pointer (some ⟨g4, 1, none⟩), .int .i64 (x.mode), .string (tx (putL x.mode 2)), .string (tx ((putL x.kind 1) ++ (putL x.mode 2))), .pointer (some ⟨g4, 5, none⟩), .int .i64 (x.links), .string (tx (putL x.links 4)), .string (tx (((putL x.kind 1) ++ (putL x.mode 2)) ++ (putL x.links 4))), .pointer (some ⟨g4, 2, none⟩), .int .i64 (x.uid), .string (tx (putL x.uid 4)), .string (tx ((((putL x.kind 1) ++ (putL x.mode 2)) ++ (putL x.links 4)) ++ (putL x.uid 4))), .pointer (some ⟨g4, 3, none⟩), .int .i64 (x.gid), .string (tx (putL x.gid 4)), .string (tx (((((putL x.kind 1) ++ (putL x.mode 2)) ++ (putL x.links 4)) ++ (putL x.uid 4)) ++ (putL x.gid 4))), .pointer (some ⟨g4, 4, none⟩), .int .i64 (x.time), .string (tx (putL x.time 8)), .string (tx ((((((putL x.kind 1) ++ (putL x.mode 2)) ++ (putL x.links 4)) ++ (putL x.uid 4)) ++ (putL x.gid 4)) ++ (putL x.time 8))), .pointer (some ⟨g4, 6, none⟩), .int .i64 (x.size), .string (tx (putL x.size 4)), .string (tx (((((((putL x.kind 1) ++ (putL x.mode 2)) ++ (putL x.links 4)) ++ (putL x.uid 4)) ++ (putL x.gid 4)) ++ (putL x.time 8)) ++ (putL x.size 4))), .string (tx (headN x ++ (x.blocks.take 0).flatMap p4)), u0 0, u0 1, u0 2, u0 3, u0 4, u0 5, u0 6, u0 7, u0 8, u0 9, u0 10, u0 11, u0 12, u0 13, u0 14, undef, undef, undef, undef, undef, undef], []⟩ ∧ Mm none w w' [.blk g4 #[.int .i64 (x.kind), .int .i64 (x.mode), .int .i64 (x.uid), .int .i64 (x.gid), .int .i64 (x.time), .int .i64 (x.links), .int .i64 (x.size), v] 48]) ⟨0, (fun qq => List.getD [undef, undef, undef, undef, undef, undef, undef, undef, undef, undef, undef, undef, undef, undef, undef] qq undef), rfl, (Nat.zero_le _), rfl, hm27⟩ ?_
  clear hm27
  rintro _ _ w30 ⟨i, u0, hn0, hi, rfl, hm31⟩ R32 hR32
  refine wp_seq_k (fun K33 hK33 => ?_)
  refine wp_seq_k (fun K34 hK34 => ?_)
  refine wp_region_lit ?_
  refine lv 37 (.int .i64 ((i : Nat) : Int)) rfl rfl (run_mv rfl rfl) ?_
  simp only [nz1, nz2, nz3]
  refine lv 38 (.pointer (some ⟨g4, 7, none⟩)) rfl rfl (r_fa48_7 g4 0 rfl rfl) ?_
  simp only [nz1, nz2, nz3]
  refine lv 39 (v) rfl rfl (r_load (hm31.at 0 rfl) rfl Try.underlying46 rfl rfl rfl) ?_
  simp only [nz1, nz2, nz3]
  refine lv 40 (.int .i64 ((x.blocks.length : Nat) : Int)) rfl rfl (s_len hb rfl Try.underlying46 rfl) ?_
  simp only [nz1, nz2, nz3]
  refine lv 41 (.bool (decide (i < x.blocks.length))) rfl rfl (r_lss i x.blocks.length rfl rfl rfl) ?_
  simp only [nz1, nz2, nz3]
  refine wpList_nil ?_
  refine then_n (hK34 _ _ ?_)
  refine cond_d (i < x.blocks.length) rfl (fun hc35 => ?_) (fun hc35 => ?_)
  · rw [decide_eq_true hc35]
    refine wp_skip ?_
    refine then_n (hK33 _ _ ?_)
    refine wp_seq_k (fun K36 hK36 => ?_)
    refine wp_block ?_
    refine wp_region_lit ?_
    refine lv 44 (.string (tx (headN x ++ (x.blocks.take i).flatMap p4))) rfl rfl (run_mv rfl rfl) ?_
    simp only [nz1, nz2, nz3]
    refine lv 45 (.pointer (some ⟨g4, 7, none⟩)) rfl rfl (r_fa48_7 g4 0 rfl rfl) ?_
    simp only [nz1, nz2, nz3]
    refine lv 46 (v) rfl rfl (r_load (hm31.at 0 rfl) rfl Try.underlying46 rfl rfl rfl) ?_
    simp only [nz1, nz2, nz3]
    refine lv 47 (.int .i64 ((i : Nat) : Int)) rfl rfl (run_mv rfl rfl) ?_
    simp only [nz1, nz2, nz3]
    obtain ⟨ge37, oe38, ce39, rfl⟩ := Rd.openz (hb.below hm31.below) (by omega)
    refine lv 48 (.pointer (some ⟨ge37, (oe38 + i * 1), none⟩)) rfl rfl (r_ixS ge37 oe38 i x.blocks.length ce39 1 (by omega) Try.underlying46 (by exact sz_int) rfl rfl rfl) ?_
    simp only [nz1, nz2, nz3]
    refine lv 49 (.int .i64 (x.blocks.getD i 0)) rfl rfl (r_cellw (cell_el (eo := 0) (Rd.cells (hb.below hm31.below)) (iv_at x.blocks i (by omega))) Try.underlying3 rfl rfl rfl) ?_
    simp only [nz1, nz2, nz3]
    refine lst (wanted_none rfl) (m_call hm31 50 (.string (tx (putL (x.blocks.getD i 0) 4))) rfl (run_rput rfl rfl rfl) (rput_any (x.blocks.getD i 0) 4 (by decide) _) (fun w40 (hm41 : Mm none w w40 [.blk g4 #[.int .i64 (x.kind), .int .i64 (x.mode), .int .i64 (x.uid), .int .i64 (x.gid), .int .i64 (x.time), .int .i64 (x.links), .int .i64 (x.size), .slice (some ⟨ge37, oe38, none⟩) x.blocks.length ce39] 48]) => ?_))
    simp only [nz1, nz2, nz3]
    refine lv 51 (.string (tx ((headN x ++ (x.blocks.take i).flatMap p4) ++ (putL (x.blocks.getD i 0) 4)))) rfl rfl (t_cat (headN x ++ (x.blocks.take i).flatMap p4) (putL (x.blocks.getD i 0) 4) (by rw [part_len x i (by omega), putL_length]; omega) rfl rfl rfl) ?_
    simp only [nz1, nz2, nz3]
    refine lv 4 (.string (tx ((headN x ++ (x.blocks.take i).flatMap p4) ++ (putL (x.blocks.getD i 0) 4)))) rfl rfl (run_as rfl rfl) ?_
    simp only [nz1, nz2, nz3]
    refine wpList_nil ?_
    rw [show ((.string (tx ((headN x ++ (x.blocks.take i).flatMap p4) ++ (putL (x.blocks.getD i 0) 4)))) : Value) = .string (tx (headN x ++ (x.blocks.take (i + 1)).flatMap p4)) from by rw [blocks_stepL x i (by omega)]]
    refine blk_n ?_
    refine then_n (hK36 _ _ ?_)
    refine wp_region_lit ?_
    refine lv 42 (.int .i64 ((i : Nat) : Int)) rfl rfl (run_mv rfl rfl) ?_
    simp only [nz1, nz2, nz3]
    refine lv 43 (.int .i64 (((i + 1) : Nat) : Int)) rfl rfl (r_add i 1 (show _ < 9223372036854775808 from by omega) rfl rfl rfl) ?_
    simp only [nz1, nz2, nz3]
    refine lv 5 (.int .i64 (((i + 1) : Nat) : Int)) rfl rfl (run_as rfl rfl) ?_
    simp only [nz1, nz2, nz3]
    refine wpList_nil ?_
    refine then_n (hR32 _ _ _ ⟨(i + 1), (fun qq => List.getD [.int .i64 ((i : Nat) : Int), .pointer (some ⟨g4, 7, none⟩), .slice (some ⟨ge37, oe38, none⟩) x.blocks.length ce39, .int .i64 ((x.blocks.length : Nat) : Int), .bool true, .int .i64 ((i : Nat) : Int), .int .i64 (((i + 1) : Nat) : Int), .string (tx (headN x ++ (x.blocks.take i).flatMap p4)), .pointer (some ⟨g4, 7, none⟩), .slice (some ⟨ge37, oe38, none⟩) x.blocks.length ce39, .int .i64 ((i : Nat) : Int), .pointer (some ⟨ge37, (oe38 + i * 1), none⟩), .int .i64 (x.blocks.getD i 0), .string (tx (putL (x.blocks.getD i 0) 4)), .string (tx (headN x ++ (x.blocks.take (i + 1)).flatMap p4))] qq undef), rfl, (by omega), rfl, hm41⟩ ?_)
    omega
  rw [decide_eq_false hc35]
  obtain rfl : i = x.blocks.length := by omega
  rw [show ((.string (tx (headN x ++ (x.blocks.take x.blocks.length).flatMap p4))) : Value) = .string (tx (headN x ++ x.blocks.flatMap p4 ++ List.replicate 0 0)) from by rw [List.take_length]; simp]
  refine wp_exit ?_
  refine then_x ?_
  refine then_x ?_
  refine blk_x ?_
  refine then_n (hK28 _ _ ?_)
  refine wp_seq_k (fun K42 hK42 => ?_)
  refine wp_block ?_
  refine wp_loop_n (fun n' a' w' => ∃ (k : Nat) (u1 : Nat → Value), n' = 256 - (28 + 4 * x.blocks.length + k) ∧ (28 + 4 * x.blocks.length + k ≤ 256) ∧ a' = ⟨#[.agg #[.int .i64 (x.kind), .int .i64 (x.mode), .int .i64 (x.uid), .int .i64 (x.gid), .int .i64 (x.time), .int .i64 (x.links), .int .i64 (x.size), v], .pointer (some ⟨g4, 0, none⟩), .string (tx ([])), .int .i64 0, .string (tx (headN x ++ x.blocks.flatMap p4 ++ List.replicate k 0)), .int .i64 ((x.blocks.length : Nat) : Int), .agg #[.int .i64 (x.kind), .int .i64 (x.mode), .int .i64 (x.uid), .int .i64 (x.gid), .int .i64 (x.time), .int .i64 (x.links), .int .i64 (x.size), v], .bool (decide (CheckP x)), .bool false, .pointer (some ⟨g4, 0, none⟩), .int .i64 (x.kind), .string (tx (putL x.kind 1)), .pointer (some ⟨g4, 1, none⟩), .int .i64 (x.mode), .string (tx (putL x.mode 2)), .string (tx ((putL x.kind 1) ++ (putL x.mode 2))), .pointer (some ⟨g4, 5, none⟩), .int .i64 (x.links), .string (tx (putL x.links 4)), .string (tx (((putL x.kind 1) ++ (putL x.mode 2)) ++ (putL x.links 4))), .pointer (some ⟨g4, 2, none⟩), .int .i64 (x.uid), .string (tx (putL x.uid 4)), .string (tx ((((putL x.kind 1) ++ (putL x.mode 2)) ++ (putL x.links 4)) ++ (putL x.uid 4))), .pointer (some ⟨g4, 3, none⟩), .int .i64 (x.gid), .string (tx (putL x.gid 4)), .string (tx (((((putL x.kind 1) ++ (putL x.mode 2)) ++ (putL x.links 4)) ++ (putL x.uid 4)) ++ (putL x.gid 4))), .pointer (some ⟨g4, 4, none⟩), .int .i64 (x.time), .string (tx (putL x.time 8)), .string (tx ((((((putL x.kind 1) ++ (putL x.mode 2)) ++ (putL x.links 4)) ++ (putL x.uid 4)) ++ (putL x.gid 4)) ++ (putL x.time 8))), .pointer (some ⟨g4, 6, none⟩), .int .i64 (x.size), .string (tx (putL x.size 4)), .string (tx (((((((putL x.kind 1) ++ (putL x.mode 2)) ++ (putL x.links 4)) ++ (putL x.uid 4)) ++ (putL x.gid 4)) ++ (putL x.time 8)) ++ (putL x.size 4))), .string (tx (headN x ++ (x.blocks.take 0).flatMap p4)), .int .i64 ((x.blocks.length : Nat) : Int), .pointer (some ⟨g4, 7, none⟩), v, .int .i64 ((x.blocks.length : Nat) : Int), .bool false, u0 5, u0 6, u0 7, u0 8, u0 9, u0 10, u0 11, u0 12, u0 13, u0 14, u1 0, u1 1, u1 2, u1 3, u1 4, undef], []⟩ ∧ Mm none w w' [.blk g4 #[.int .i64 (x.kind), .int .i64 (x.mode), .int .i64 (x.uid), .int .i64 (x.gid), .int .i64 (x.time), .int .i64 (x.links), .int .i64 (x.size), v] 48]) ⟨0, (fun qq => List.getD [undef, undef, undef, undef, undef] qq undef), rfl, (by omega), rfl, hm31⟩ ?_
  clear hm31
  rintro _ _ w43 ⟨k, u1, hn1, hk, rfl, hm44⟩ R45 hR45
  refine wp_seq_k (fun K46 hK46 => ?_)
  refine wp_seq_k (fun K47 hK47 => ?_)
  have hlk := tail_len x k
  refine wp_region_lit ?_
  refine lv 52 (.string (tx (headN x ++ x.blocks.flatMap p4 ++ List.replicate k 0))) rfl rfl (run_mv rfl rfl) ?_
  simp only [nz1, nz2, nz3]
  refine lv 53 (.int .i64 (((headN x ++ x.blocks.flatMap p4 ++ List.replicate k 0).length : Nat) : Int)) rfl rfl (t_len rfl Try.underlying9 rfl) ?_
  simp only [nz1, nz2, nz3]
  refine lv 54 (.bool (decide ((headN x ++ x.blocks.flatMap p4 ++ List.replicate k 0).length < 256))) rfl rfl (r_lss ((headN x ++ x.blocks.flatMap p4 ++ List.replicate k 0).length) 256 rfl rfl rfl) ?_
  simp only [nz1, nz2, nz3]
  refine wpList_nil ?_
  refine then_n (hK47 _ _ ?_)
  refine cond_d ((headN x ++ x.blocks.flatMap p4 ++ List.replicate k 0).length < 256) rfl (fun hc48 => ?_) (fun hc48 => ?_)
  · rw [decide_eq_true hc48]
    refine wp_skip ?_
    refine then_n (hK46 _ _ ?_)
    refine wp_block ?_
    refine wp_region_lit ?_
    refine lv 55 (.string (tx (headN x ++ x.blocks.flatMap p4 ++ List.replicate k 0))) rfl rfl (run_mv rfl rfl) ?_
    simp only [nz1, nz2, nz3]
    refine lv 56 (.string (tx ((headN x ++ x.blocks.flatMap p4 ++ List.replicate k 0) ++ [0]))) rfl rfl (t_cat (headN x ++ x.blocks.flatMap p4 ++ List.replicate k 0) ([0]) (by rw [hlk, List.length_singleton]; omega) rfl rfl rfl) ?_
    simp only [nz1, nz2, nz3]
    refine lv 4 (.string (tx ((headN x ++ x.blocks.flatMap p4 ++ List.replicate k 0) ++ [0]))) rfl rfl (run_as rfl rfl) ?_
    simp only [nz1, nz2, nz3]
    refine wpList_nil ?_
    rw [show ((.string (tx ((headN x ++ x.blocks.flatMap p4 ++ List.replicate k 0) ++ [0]))) : Value) = .string (tx (headN x ++ x.blocks.flatMap p4 ++ List.replicate (k + 1) 0)) from by rw [rep_L]]
    refine blk_n ?_
    refine then_n (hR45 _ _ _ ⟨(k + 1), (fun qq => List.getD [.string (tx (headN x ++ x.blocks.flatMap p4 ++ List.replicate k 0)), .int .i64 (((headN x ++ x.blocks.flatMap p4 ++ List.replicate k 0).length : Nat) : Int), .bool true, .string (tx (headN x ++ x.blocks.flatMap p4 ++ List.replicate k 0)), .string (tx (headN x ++ x.blocks.flatMap p4 ++ List.replicate (k + 1) 0))] qq undef), rfl, (by omega), rfl, hm44⟩ ?_)
    omega
  rw [decide_eq_false hc48]
  obtain rfl : k = 256 - (28 + 4 * x.blocks.length) := by omega
  refine wp_exit ?_
  refine then_x ?_
  refine then_x ?_
  refine blk_x ?_
  refine then_n (hK42 _ _ ?_)
  refine wp_seq_k (fun K49 hK49 => ?_)
  refine wp_region_lit ?_
  refine lv 57 (.string (tx (headN x ++ x.blocks.flatMap p4 ++ List.replicate (256 - (28 + 4 * x.blocks.length)) 0))) rfl rfl (run_mv rfl rfl) ?_
  simp only [nz1, nz2, nz3]
  refine lv 2 (.string (tx (headN x ++ x.blocks.flatMap p4 ++ List.replicate (256 - (28 + 4 * x.blocks.length)) 0))) rfl rfl (run_as rfl rfl) ?_
  simp only [nz1, nz2, nz3]
  refine lv 3 (.int .i64 0) rfl rfl (run_as rfl rfl) ?_
  simp only [nz1, nz2, nz3]
  refine wpList_nil ?_
  refine then_n (hK49 _ _ ?_)
  refine wp_ret ?_
  exact ⟨rfl, .tuple #[.string (tx (headN x ++ x.blocks.flatMap p4 ++ List.replicate (256 - (28 + 4 * x.blocks.length)) 0)), .int .i64 0], res_tt rfl rfl rfl, ⟨by rw [show bytesR x = bytesN x from if_pos hck, show errR x = 0 from if_pos hck]; rfl, hm44.below⟩⟩
set_option maxHeartbeats 4000000 in
set_option maxRecDepth 100000 in
theorem rsame_self (x : Nd) (v v' : Value) (w : World) (hb : Rd w v x.blocks.length 1 (x.blocks.map iv)) (hb' : Rd w v' x.blocks.length 1 (x.blocks.map iv)) (hsz : x.blocks.length ≤ 1000000000000) : Calls Try.prog 33 #[.agg #[.int .i64 (x.kind), .int .i64 (x.mode), .int .i64 (x.uid), .int .i64 (x.gid), .int .i64 (x.time), .int .i64 (x.links), .int .i64 (x.size), v], .agg #[.int .i64 (x.kind), .int .i64 (x.mode), .int .i64 (x.uid), .int .i64 (x.gid), .int .i64 (x.time), .int .i64 (x.links), .int .i64 (x.size), v']] w (fun e w' => e = .returned (.bool true) ∧ Below w.heap.size w w') := by
  go_enter Try.func33, Try.ntmps33
  have hm0 := Mm.nil none w
  refine wp_seq_k (fun K1 hK1 => ?_)
  refine wp_region_lit ?_
  refine lst (wanted_none rfl) (m_alloc (c := #[.int .i64 (x.kind), .int .i64 (x.mode), .int .i64 (x.uid), .int .i64 (x.gid), .int .i64 (x.time), .int .i64 (x.links), .int .i64 (x.size), v]) (T := 48) hm0 2 rfl (run_box rfl rfl) (fun g4 w2 (hm3 : Mm none w w2 [.blk g4 #[.int .i64 (x.kind), .int .i64 (x.mode), .int .i64 (x.uid), .int .i64 (x.gid), .int .i64 (x.time), .int .i64 (x.links), .int .i64 (x.size), v] 48]) => ?_))
  simp only [nz1, nz2, nz3]
  refine lst (wanted_none rfl) (m_alloc (c := #[.int .i64 (x.kind), .int .i64 (x.mode), .int .i64 (x.uid), .int .i64 (x.gid), .int .i64 (x.time), .int .i64 (x.links), .int .i64 (x.size), v']) (T := 48) hm3 3 rfl (run_box rfl rfl) (fun g7 w5 (hm6 : Mm none w w5 [.blk g4 #[.int .i64 (x.kind), .int .i64 (x.mode), .int .i64 (x.uid), .int .i64 (x.gid), .int .i64 (x.time), .int .i64 (x.links), .int .i64 (x.size), v] 48, .blk g7 #[.int .i64 (x.kind), .int .i64 (x.mode), .int .i64 (x.uid), .int .i64 (x.gid), .int .i64 (x.time), .int .i64 (x.links), .int .i64 (x.size), v'] 48]) => ?_))
  simp only [nz1, nz2, nz3]
  refine lv 4 (.bool false) rfl rfl (run_as rfl rfl) ?_
  simp only [nz1, nz2, nz3]
  refine wpList_nil ?_
  refine then_n (hK1 _ _ ?_)
  refine wp_seq_k (fun K8 hK8 => ?_)
  refine wp_seq_k (fun K9 hK9 => ?_)
  refine wp_region_lit ?_
  refine lv 6 (.pointer (some ⟨g4, 0, none⟩)) rfl rfl (r_fa48_0 g4 0 rfl rfl) ?_
  simp only [nz1, nz2, nz3]
  refine lv 7 (.int .i64 (x.kind)) rfl rfl (r_load (hm6.at 0 rfl) rfl Try.underlying3 rfl rfl rfl) ?_
  simp only [nz1, nz2, nz3]
  refine lv 8 (.pointer (some ⟨g7, 0, none⟩)) rfl rfl (r_fa48_0 g7 0 rfl rfl) ?_
  simp only [nz1, nz2, nz3]
  refine lv 9 (.int .i64 (x.kind)) rfl rfl (r_load (hm6.at 1 rfl) rfl Try.underlying3 rfl rfl rfl) ?_
  simp only [nz1, nz2, nz3]
  refine lv 10 (.bool false) rfl rfl (z_neqf x.kind rfl rfl rfl) ?_
  simp only [nz1, nz2, nz3]
  refine lv 11 (.bool false) rfl rfl (run_mv rfl rfl) ?_
  simp only [nz1, nz2, nz3]
  refine lst rfl (w_value 12 (.pointer (some ⟨g4, 1, none⟩)) rfl (r_fa48_1 g4 0 rfl rfl) ?_)
  simp only [nz1, nz2, nz3]
  refine lst rfl (w_value 13 (.int .i64 (x.mode)) rfl (r_load (hm6.at 0 rfl) rfl Try.underlying3 rfl rfl rfl) ?_)
  simp only [nz1, nz2, nz3]
  refine lst rfl (w_value 14 (.pointer (some ⟨g7, 1, none⟩)) rfl (r_fa48_1 g7 0 rfl rfl) ?_)
  simp only [nz1, nz2, nz3]
  refine lst rfl (w_value 15 (.int .i64 (x.mode)) rfl (r_load (hm6.at 1 rfl) rfl Try.underlying3 rfl rfl rfl) ?_)
  simp only [nz1, nz2, nz3]
  refine lst rfl (w_value 16 (.bool false) rfl (z_neqf x.mode rfl rfl rfl) ?_)
  simp only [nz1, nz2, nz3]
  refine lv 17 (.bool false) rfl rfl (run_pickf rfl rfl rfl) ?_
  simp only [nz1, nz2, nz3]
  refine lv 18 (.bool false) rfl rfl (run_mv rfl rfl) ?_
  simp only [nz1, nz2, nz3]
  refine lst rfl (w_value 19 (.pointer (some ⟨g4, 2, none⟩)) rfl (r_fa48_2 g4 0 rfl rfl) ?_)
  simp only [nz1, nz2, nz3]
  refine lst rfl (w_value 20 (.int .i64 (x.uid)) rfl (r_load (hm6.at 0 rfl) rfl Try.underlying3 rfl rfl rfl) ?_)
  simp only [nz1, nz2, nz3]
  refine lst rfl (w_value 21 (.pointer (some ⟨g7, 2, none⟩)) rfl (r_fa48_2 g7 0 rfl rfl) ?_)
  simp only [nz1, nz2, nz3]
  refine lst rfl (w_value 22 (.int .i64 (x.uid)) rfl (r_load (hm6.at 1 rfl) rfl Try.underlying3 rfl rfl rfl) ?_)
  simp only [nz1, nz2, nz3]
  refine lst rfl (w_value 23 (.bool false) rfl (z_neqf x.uid rfl rfl rfl) ?_)
  simp only [nz1, nz2, nz3]
  refine lv 24 (.bool false) rfl rfl (run_pickf rfl rfl rfl) ?_
  simp only [nz1, nz2, nz3]
  refine lv 25 (.bool false) rfl rfl (run_mv rfl rfl) ?_
  simp only [nz1, nz2, nz3]
  refine lst rfl (w_value 26 (.pointer (some ⟨g4, 3, none⟩)) rfl (r_fa48_3 g4 0 rfl rfl) ?_)
  simp only [nz1, nz2, nz3]
  refine lst rfl (w_value 27 (.int .i64 (x.gid)) rfl (r_load (hm6.at 0 rfl) rfl Try.underlying3 rfl rfl rfl) ?_)
  simp only [nz1, nz2, nz3]
  refine lst rfl (w_value 28 (.pointer (some ⟨g7, 3, none⟩)) rfl (r_fa48_3 g7 0 rfl rfl) ?_)
  simp only [nz1, nz2, nz3]
  refine lst rfl (w_value 29 (.int .i64 (x.gid)) rfl (r_load (hm6.at 1 rfl) rfl Try.underlying3 rfl rfl rfl) ?_)
  simp only [nz1, nz2, nz3]
  refine lst rfl (w_value 30 (.bool false) rfl (z_neqf x.gid rfl rfl rfl) ?_)
  simp only [nz1, nz2, nz3]
  refine lv 31 (.bool false) rfl rfl (run_pickf rfl rfl rfl) ?_
  simp only [nz1, nz2, nz3]
  refine lv 32 (.bool false) rfl rfl (run_mv rfl rfl) ?_
  simp only [nz1, nz2, nz3]
  refine lst rfl (w_value 33 (.pointer (some ⟨g4, 4, none⟩)) rfl (r_fa48_4 g4 0 rfl rfl) ?_)
  simp only [nz1, nz2, nz3]
  refine lst rfl (w_value 34 (.int .i64 (x.time)) rfl (r_load (hm6.at 0 rfl) rfl Try.underlying3 rfl rfl rfl) ?_)
  simp only [nz1, nz2, nz3]
  refine lst rfl (w_value 35 (.pointer (some ⟨g7, 4, none⟩)) rfl (r_fa48_4 g7 0 rfl rfl) ?_)
  simp only [nz1, nz2, nz3]
  refine lst rfl (w_value 36 (.int .i64 (x.time)) rfl (r_load (hm6.at 1 rfl) rfl Try.underlying3 rfl rfl rfl) ?_)
  simp only [nz1, nz2, nz3]
  refine lst rfl (w_value 37 (.bool false) rfl (z_neqf x.time rfl rfl rfl) ?_)
  simp only [nz1, nz2, nz3]
  refine lv 38 (.bool false) rfl rfl (run_pickf rfl rfl rfl) ?_
  simp only [nz1, nz2, nz3]
  refine lv 39 (.bool false) rfl rfl (run_mv rfl rfl) ?_
  simp only [nz1, nz2, nz3]
  refine lst rfl (w_value 40 (.pointer (some ⟨g4, 5, none⟩)) rfl (r_fa48_5 g4 0 rfl rfl) ?_)
  simp only [nz1, nz2, nz3]
  refine lst rfl (w_value 41 (.int .i64 (x.links)) rfl (r_load (hm6.at 0 rfl) rfl Try.underlying3 rfl rfl rfl) ?_)
  simp only [nz1, nz2, nz3]
  refine lst rfl (w_value 42 (.pointer (some ⟨g7, 5, none⟩)) rfl (r_fa48_5 g7 0 rfl rfl) ?_)
  simp only [nz1, nz2, nz3]
  refine lst rfl (w_value 43 (.int .i64 (x.links)) rfl (r_load (hm6.at 1 rfl) rfl Try.underlying3 rfl rfl rfl) ?_)
  simp only [nz1, nz2, nz3]
  refine lst rfl (w_value 44 (.bool false) rfl (z_neqf x.links rfl rfl rfl) ?_)
  simp only [nz1, nz2, nz3]
  refine lv 45 (.bool false) rfl rfl (run_pickf rfl rfl rfl) ?_
  simp only [nz1, nz2, nz3]
  refine lv 46 (.bool false) rfl rfl (run_mv rfl rfl) ?_
  simp only [nz1, nz2, nz3]
  refine lst rfl (w_value 47 (.pointer (some ⟨g4, 6, none⟩)) rfl (r_fa48_6 g4 0 rfl rfl) ?_)
  simp only [nz1, nz2, nz3]
  refine lst rfl (w_value 48 (.int .i64 (x.size)) rfl (r_load (hm6.at 0 rfl) rfl Try.underlying3 rfl rfl rfl) ?_)
  simp only [nz1, nz2, nz3]
  refine lst rfl (w_value 49 (.pointer (some ⟨g7, 6, none⟩)) rfl (r_fa48_6 g7 0 rfl rfl) ?_)
  simp only [nz1, nz2, nz3]
  refine lst rfl (w_value 50 (.int .i64 (x.size)) rfl (r_load (hm6.at 1 rfl) rfl Try.underlying3 rfl rfl rfl) ?_)
  simp only [nz1, nz2, nz3]
  refine lst rfl (w_value 51 (.bool false) rfl (z_neqf x.size rfl rfl rfl) ?_)
  simp only [nz1, nz2, nz3]
  refine lv 52 (.bool false) rfl rfl (run_pickf rfl rfl rfl) ?_
  simp only [nz1, nz2, nz3]
  refine lv 53 (.bool false) rfl rfl (run_mv rfl rfl) ?_
  simp only [nz1, nz2, nz3]
  refine lst rfl (w_value 54 (.pointer (some ⟨g4, 7, none⟩)) rfl (r_fa48_7 g4 0 rfl rfl) ?_)
  simp only [nz1, nz2, nz3]
  refine lst rfl (w_value 55 (v) rfl (r_load (hm6.at 0 rfl) rfl Try.underlying46 rfl rfl rfl) ?_)
  simp only [nz1, nz2, nz3]
  refine lst rfl (w_value 56 (.int .i64 ((x.blocks.length : Nat) : Int)) rfl (s_len hb rfl Try.underlying46 rfl) ?_)
  simp only [nz1, nz2, nz3]
  refine lst rfl (w_value 57 (.pointer (some ⟨g7, 7, none⟩)) rfl (r_fa48_7 g7 0 rfl rfl) ?_)
  simp only [nz1, nz2, nz3]
  refine lst rfl (w_value 58 (v') rfl (r_load (hm6.at 1 rfl) rfl Try.underlying46 rfl rfl rfl) ?_)
  simp only [nz1, nz2, nz3]
  refine lst rfl (w_value 59 (.int .i64 ((x.blocks.length : Nat) : Int)) rfl (s_len hb' rfl Try.underlying46 rfl) ?_)
  simp only [nz1, nz2, nz3]
  refine lst rfl (w_value 60 (.bool false) rfl (z_neqf ((x.blocks.length : Nat) : Int) rfl rfl rfl) ?_)
  simp only [nz1, nz2, nz3]
  refine lv 61 (.bool false) rfl rfl (run_pickf rfl rfl rfl) ?_
  simp only [nz1, nz2, nz3]
  refine wpList_nil ?_
  refine then_n (hK9 _ _ ?_)
  refine cond_f rfl ?_
  refine wp_skip ?_
  refine then_n (hK8 _ _ ?_)
  refine wp_seq_k (fun K10 hK10 => ?_)
  refine wp_seq_k (fun K11 hK11 => ?_)
  refine wp_region_lit ?_
  refine lv 5 (.int .i64 0) rfl rfl (run_as rfl rfl) ?_
  simp only [nz1, nz2, nz3]
  refine wpList_nil ?_
  refine then_n (hK11 _ _ ?_)
  refine wp_block ?_
  refine wp_loop_n (fun n' a' w' => ∃ (i : Nat) (u0 : Nat → Value), n' = x.blocks.length - i ∧ (i ≤ x.blocks.length) ∧ a' = ⟨#[.agg #[.int .i64 (x.kind), .int .i64 (x.mode), .int .i64 (x.uid), .int .i64 (x.gid), .int .i64 (x.time), .int .i64 (x.links), .int .i64 (x.size), v], .agg #[.int .i64 (x.kind), .int .i64 (x.mode), .int .i64 (x.uid), .int .i64 (x.gid), .int .i64 (x.time), .int .i64 (x.links), .int .i64 (x.size), v'], .pointer (some ⟨g4, 0, none⟩), .pointer (some ⟨g7, 0, none⟩), u0 0, .int .i64 ((i : Nat) : Int), .pointer (some ⟨g4, 0, none⟩), .int .i64 (x.kind), .pointer (some ⟨g7, 0, none⟩), .int .i64 (x.kind), .bool false, .bool false, .pointer (some ⟨g4, 1, none⟩), .int .i64 (x.mode), .pointer (some ⟨g7, 1, none⟩), .int .i64 (x.mode), .bool false, .bool false, .bool false, .pointer (some ⟨g4, 2, none⟩), .int .i64 (x.uid), .pointer (some ⟨g7, 2, none⟩), .int .i64 (x.uid), .bool false, .bool false, .bool false, .pointer (some ⟨g4, 3, none⟩), .int .i64 (x.gid), .pointer (some ⟨g7, 3, none⟩), .int .i64 (x.gid), .bool false, .bool false, .bool false, .pointer (some ⟨g4, 4, none⟩), .int .i64 (x.time), .pointer (some ⟨g7, 4, none⟩), .int .i64 (x.time), .bool false, .bool false, .bool false, .pointer (some ⟨g4, 5, none⟩), .int .i64 (x.links), .pointer (some ⟨g7, 5, none⟩), .int .i64 (x.links), .bool false, .bool false, .bool false, .pointer (some ⟨g4, 6, none⟩), .int .i64 (x.size), .pointer (some ⟨g7, 6, none⟩), .int .i64 (x.size), .bool false, .bool false, .bool false, .pointer (some ⟨g4, 7, none⟩), v, .int .i64 ((x.blocks.length : Nat) : Int), .pointer (some ⟨g7, 7, none⟩), v', .int .i64 ((x.blocks.length : Nat) : Int), .bool false, .bool false, u0 1, u0 2, u0 3, u0 4, u0 5, u0 6, u0 7, u0 8, u0 9, u0 10, u0 11, u0 12, u0 13, u0 14, u0 15, u0 16, u0 17, u0 18], []⟩ ∧ Mm none w w' [.blk g4 #[.int .i64 (x.kind), .int .i64 (x.mode), .int .i64 (x.uid), .int .i64 (x.gid), .int .i64 (x.time), .int .i64 (x.links), .int .i64 (x.size), v] 48, .blk g7 #[.int .i64 (x.kind), .int .i64 (x.mode), .int .i64 (x.uid), .int .i64 (x.gid), .int .i64 (x.time), .int .i64 (x.links), .int .i64 (x.size), v'] 48]) ⟨0, (fun qq => List.getD [.bool false, undef, undef, undef, undef, undef, undef, undef, undef, undef, undef, undef, undef, undef, undef, undef, undef, undef, undef] qq undef), rfl, (Nat.zero_le _), rfl, hm6⟩ ?_
  clear hm6
  rintro _ _ w12 ⟨i, u0, hn0, hi, rfl, hm13⟩ R14 hR14
  refine wp_seq_k (fun K15 hK15 => ?_)
  refine wp_seq_k (fun K16 hK16 => ?_)
  refine wp_region_lit ?_
  refine lv 62 (.int .i64 ((i : Nat) : Int)) rfl rfl (run_mv rfl rfl) ?_
  simp only [nz1, nz2, nz3]
  refine lv 63 (.pointer (some ⟨g4, 7, none⟩)) rfl rfl (r_fa48_7 g4 0 rfl rfl) ?_
  simp only [nz1, nz2, nz3]
  refine lv 64 (v) rfl rfl (r_load (hm13.at 0 rfl) rfl Try.underlying46 rfl rfl rfl) ?_
  simp only [nz1, nz2, nz3]
  refine lv 65 (.int .i64 ((x.blocks.length : Nat) : Int)) rfl rfl (s_len hb rfl Try.underlying46 rfl) ?_
  simp only [nz1, nz2, nz3]
  refine lv 66 (.bool (decide (i < x.blocks.length))) rfl rfl (r_lss i x.blocks.length rfl rfl rfl) ?_
  simp only [nz1, nz2, nz3]
  refine wpList_nil ?_
  refine then_n (hK16 _ _ ?_)
  refine cond_d (i < x.blocks.length) rfl (fun hc17 => ?_) (fun hc17 => ?_)
  rotate_left
  · rw [decide_eq_false hc17]
    refine wp_exit ?_
    refine then_x ?_
    refine then_x ?_
    refine blk_x ?_
    refine then_n (hK10 _ _ ?_)
    refine wp_seq_k (fun K28 hK28 => ?_)
    refine wp_region_lit ?_
    refine lv 4 (.bool true) rfl rfl (run_as rfl rfl) ?_
    simp only [nz1, nz2, nz3]
    refine wpList_nil ?_
    refine then_n (hK28 _ _ ?_)
    refine wp_ret ?_
    exact ⟨rfl, .bool true, res_t rfl rfl, ⟨rfl, hm13.below⟩⟩
  rw [decide_eq_true hc17]
  refine wp_skip ?_
  refine then_n (hK15 _ _ ?_)
  refine wp_seq_k (fun K18 hK18 => ?_)
  refine wp_block ?_
  refine wp_seq_k (fun K19 hK19 => ?_)
  have hm20 := hm13.drew
  refine wp_region_held_drew (S := fun w' => Mem.Blk w' g4 (#[.int .i64 (x.kind), .int .i64 (x.mode), .int .i64 (x.uid), .int .i64 (x.gid), .int .i64 (x.time), .int .i64 (x.links), .int .i64 (x.size), v]) 48 ∧ Mem.Blk w' g7 (#[.int .i64 (x.kind), .int .i64 (x.mode), .int .i64 (x.uid), .int .i64 (x.gid), .int .i64 (x.time), .int .i64 (x.links), .int .i64 (x.size), v']) 48 ∧ Rd w' v x.blocks.length 1 (x.blocks.map iv) ∧ Rd w' v' x.blocks.length 1 (x.blocks.map iv)) (by kernel_rfl) (⟨hm20.at 0 rfl, hm20.at 1 rfl, hb.below hm20.below, hb'.below hm20.below⟩) (fun _ => ?_)
  generalize w12.drew = w21 at *
  refine tk 0 69 (.pointer (some ⟨g4, 7, none⟩)) rfl rfl (fun _ hw => r_fa48_7 g4 0 rfl rfl) (⟨hm20.at 0 rfl, hm20.at 1 rfl, hb.below hm20.below, hb'.below hm20.below⟩) ?_
  simp only [nz1, nz2, nz3]
  refine tk 1 70 (v) rfl rfl (fun _ hw => r_load hw.1 rfl Try.underlying46 rfl rfl rfl) (⟨hm20.at 0 rfl, hm20.at 1 rfl, hb.below hm20.below, hb'.below hm20.below⟩) ?_
  simp only [nz1, nz2, nz3]
  refine tk 2 71 (.int .i64 ((i : Nat) : Int)) rfl rfl (fun _ hw => run_mv rfl rfl) (⟨hm20.at 0 rfl, hm20.at 1 rfl, hb.below hm20.below, hb'.below hm20.below⟩) ?_
  simp only [nz1, nz2, nz3]
  obtain ⟨ge22, oe23, ce24, rfl⟩ := Rd.openz (hb.below hm20.below) (by omega)
  refine tk 3 72 (.pointer (some ⟨ge22, (oe23 + i * 1), none⟩)) rfl rfl (fun _ hw => r_ixS ge22 oe23 i x.blocks.length ce24 1 (by omega) Try.underlying46 (by exact sz_int) rfl rfl rfl) (⟨hm20.at 0 rfl, hm20.at 1 rfl, hb.below hm20.below, hb'.below hm20.below⟩) ?_
  simp only [nz1, nz2, nz3]
  refine tk 4 73 (.int .i64 (x.blocks.getD i 0)) rfl rfl (fun _ hw => r_cellw (cell_el (eo := 0) (Rd.cells hw.2.2.1) (iv_at x.blocks i (by omega))) Try.underlying3 rfl rfl rfl) (⟨hm20.at 0 rfl, hm20.at 1 rfl, hb.below hm20.below, hb'.below hm20.below⟩) ?_
  simp only [nz1, nz2, nz3]
  refine tk 5 74 (.pointer (some ⟨g7, 7, none⟩)) rfl rfl (fun _ hw => r_fa48_7 g7 0 rfl rfl) (⟨hm20.at 0 rfl, hm20.at 1 rfl, hb.below hm20.below, hb'.below hm20.below⟩) ?_
  simp only [nz1, nz2, nz3]
  refine tk 6 75 (v') rfl rfl (fun _ hw => r_load hw.2.1 rfl Try.underlying46 rfl rfl rfl) (⟨hm20.at 0 rfl, hm20.at 1 rfl, hb.below hm20.below, hb'.below hm20.below⟩) ?_
  simp only [nz1, nz2, nz3]
  refine tk 7 76 (.int .i64 ((i : Nat) : Int)) rfl rfl (fun _ hw => run_mv rfl rfl) (⟨hm20.at 0 rfl, hm20.at 1 rfl, hb.below hm20.below, hb'.below hm20.below⟩) ?_
  simp only [nz1, nz2, nz3]
  obtain ⟨ge25, oe26, ce27, rfl⟩ := Rd.openz (hb'.below hm20.below) (by omega)
  refine tk 8 77 (.pointer (some ⟨ge25, (oe26 + i * 1), none⟩)) rfl rfl (fun _ hw => r_ixS ge25 oe26 i x.blocks.length ce27 1 (by omega) Try.underlying46 (by exact sz_int) rfl rfl rfl) (⟨hm20.at 0 rfl, hm20.at 1 rfl, hb.below hm20.below, hb'.below hm20.below⟩) ?_
  simp only [nz1, nz2, nz3]
  refine tk 9 78 (.int .i64 (x.blocks.getD i 0)) rfl rfl (fun _ hw => r_cellw (cell_el (eo := 0) (Rd.cells hw.2.2.2) (iv_at x.blocks i (by omega))) Try.underlying3 rfl rfl rfl) (⟨hm20.at 0 rfl, hm20.at 1 rfl, hb.below hm20.below, hb'.below hm20.below⟩) ?_
  simp only [nz1, nz2, nz3]
  refine tk 10 79 (.bool false) rfl rfl (fun _ hw => z_neqf (x.blocks.getD i 0) rfl rfl rfl) (⟨hm20.at 0 rfl, hm20.at 1 rfl, hb.below hm20.below, hb'.below hm20.below⟩) ?_
  simp only [nz1, nz2, nz3]
  refine wpAnyH_done (by kernel_rfl) ?_ _
  refine then_n (hK19 _ _ ?_)
  refine cond_f rfl ?_
  refine wp_skip ?_
  refine blk_n ?_
  refine then_n (hK18 _ _ ?_)
  refine wp_region_lit ?_
  refine lv 67 (.int .i64 ((i : Nat) : Int)) rfl rfl (run_mv rfl rfl) ?_
  simp only [nz1, nz2, nz3]
  refine lv 68 (.int .i64 (((i + 1) : Nat) : Int)) rfl rfl (r_add i 1 (show _ < 9223372036854775808 from by omega) rfl rfl rfl) ?_
  simp only [nz1, nz2, nz3]
  refine lv 5 (.int .i64 (((i + 1) : Nat) : Int)) rfl rfl (run_as rfl rfl) ?_
  simp only [nz1, nz2, nz3]
  refine wpList_nil ?_
  refine then_n (hR14 _ _ _ ⟨(i + 1), (fun qq => List.getD [u0 0, .int .i64 ((i : Nat) : Int), .pointer (some ⟨g4, 7, none⟩), .slice (some ⟨ge22, oe23, none⟩) x.blocks.length ce24, .int .i64 ((x.blocks.length : Nat) : Int), .bool true, .int .i64 ((i : Nat) : Int), .int .i64 (((i + 1) : Nat) : Int), .pointer (some ⟨g4, 7, none⟩), .slice (some ⟨ge22, oe23, none⟩) x.blocks.length ce24, .int .i64 ((i : Nat) : Int), .pointer (some ⟨ge22, (oe23 + i * 1), none⟩), .int .i64 (x.blocks.getD i 0), .pointer (some ⟨g7, 7, none⟩), .slice (some ⟨ge25, oe26, none⟩) x.blocks.length ce27, .int .i64 ((i : Nat) : Int), .pointer (some ⟨ge25, (oe26 + i * 1), none⟩), .int .i64 (x.blocks.getD i 0), .bool false] qq undef), rfl, (by omega), rfl, hm20⟩ ?_)
  omega
end Go.Proofs.Ytmammofbgllceaa.Nod
