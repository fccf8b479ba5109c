/- Any text read as a sector: the node is the document's, and what is read has that sector: InodeReads returns true, for every text. No condition. -/
import Derived.Test.YtmammofbgllceaaRows
import Derived.Test.YtmammofbgllceaaNodH
import Derived.Test.YtmammofbgllceaaNodK
import Derived.Test.YtmammofbgllceaaNodG
import Derived.WalkKit
import Derived.ProofKit
import Derived.OpenShut
import Derived.ChangeMaps5
namespace Go.Proofs.Ytmammofbgllceaa.inodeReads
open Go.ChangeShapes Go.WideShapes Go.ChangeAt Go.RowKit Go.ChangeMaps
open Go.Proofs.Ytmammofbgllceaa Go.Proofs.Ytmammofbgllceaa.Nod
open Go.Proofs.Ytmammofbgllceaa.Sym Go.Proofs.Ytmammofbgllceaa.Mem
open Go.Proofs.Ytmammofbgllceaa.Sx hiding Mm m_alloc m_store m_put m_call m_callx m_make m_append r_string r_ixS
set_option linter.unusedVariables false

theorem own : ownKnob Try.prog.godebug = none := by kernel_rfl
attribute [local irreducible] wpList Oper.wp
theorem lvw {P : Program} {ops : Array Oper} {Q : Exit → Act → World → Prop} {oi : Oper} {rest : List Oper} {a : Act} {w : World} (d : Tmp) (v : Value) (hg : Region.wanted oi (yielded ops a.tmps) = true) (hd : oi.dst = some d) (hrun : (execOp a.eval oi).run P w = .ok (.value v) w)
    (h : wpList P ops Q rest { a with tmps := a.tmps.setIfInBounds d v } w) : wpList P ops Q (oi :: rest) a w :=
  Sym.lst hg (Sym.w_value d v hd hrun h)
theorem z_eqlt {P : Program} {o : Oper} {a : Act} {w : World} {x y : Operand} {T T' : TypeId} {k : IntKind} (n m : Int) (h : n = m) (ho : o.op = .binOp .eql T x y T') (hx : a.eval x = .int k n) (hy : a.eval y = .int k m) : (execOp a.eval o).run P w = .ok (.value (.bool true)) w := by
  have := z_eql (P := P) (w := w) n m ho hx hy
  rw [decide_eq_true h] at this
  exact this
theorem t_eqt {P : Program} {o : Oper} {a : Act} {w : World} {x y : Operand} {T T' : TypeId} (s t : List UInt8) (h : s = t) (ho : o.op = .binOp .eql T x y T') (hx : a.eval x = .string (tx s)) (hy : a.eval y = .string (tx t)) : (execOp a.eval o).run P w = .ok (.value (.bool true)) w := by
  have := t_eql (P := P) (w := w) s t ho hx hy
  rw [decide_eq_true h] at this
  exact this
theorem good_of {l : List UInt8} (h : errRd l = 0) : goodR l := by
  by_cases hg : goodR l
  · exact hg
  · rw [errRd, if_neg hg] at h; cases h
theorem good_err {l : List UInt8} (h : goodR l) : errR (readN l) = 0 := by rw [readN, if_pos h, errR, if_pos h.2.2.1]
theorem good_back {l : List UInt8} (h : goodR l) : bytesR (readN l) = l := by rw [readN, if_pos h, bytesR, if_pos h.2.2.1, h.2.2.2]
theorem read_few (l : List UInt8) : (readN l).blocks.length ≤ 57 := by
  by_cases h : goodR l
  · have := check_len h.2.2.1
    rwa [readN, if_pos h]
  · rw [readN, if_neg h]; decide
set_option maxHeartbeats 4000000 in
set_option maxRecDepth 100000 in
theorem walk_l (l : List UInt8) (w : World) : Calls Try.prog 9 #[.string (tx l)] w (fun e w' => e = .returned (.bool true) ∧ Below w.heap.size w w') := by
  go_enter Try.func9, Try.ntmps9
  have hm0 := Mm.nil none w
  refine wp_seq_k (fun K1 hK1 => ?_)
  refine wp_region_lit ?_
  refine lv 2 (.bool false) rfl rfl (run_as rfl rfl) ?_
  simp only [nz1, nz2, nz3]
  refine wpList_nil ?_
  refine then_n (hK1 _ _ ?_)
  refine wp_seq_k (fun K2 hK2 => ?_)
  refine wp_region_lit ?_
  refine lv 10 (.string (tx l)) rfl rfl (run_mv rfl rfl) ?_
  simp only [nz1, nz2, nz3]
  refine lst (wanted_none rfl) (m_callx hm0 11 rfl (run_Read rfl rfl) (calls_row (F := fun v => .tuple #[.agg #[.int .i64 (readN l).kind, .int .i64 (readN l).mode, .int .i64 (readN l).uid, .int .i64 (readN l).gid, .int .i64 (readN l).time, .int .i64 (readN l).links, .int .i64 (readN l).size, v], .int .i64 (errRd l)]) (read_any l _)) (fun vv8 w3 hR6 hb7 hm4 => ?_))
  obtain ⟨q5, rfl, hq9⟩ := hR6
  have hm10 : Mm none w w3 [.row q5 ((readN l).blocks.length) ((readN l).blocks.map iv) 3 1] := hm0.gained hb7 hq9
  clear hm4
  simp only [nz1, nz2, nz3]
  refine lv 9 (.tuple #[.agg #[.int .i64 ((readN l).kind), .int .i64 ((readN l).mode), .int .i64 ((readN l).uid), .int .i64 ((readN l).gid), .int .i64 ((readN l).time), .int .i64 ((readN l).links), .int .i64 ((readN l).size), q5], .int .i64 (errRd l)]) rfl rfl (run_mv rfl rfl) ?_
  simp only [nz1, nz2, nz3]
  refine lv 12 (.agg #[.int .i64 ((readN l).kind), .int .i64 ((readN l).mode), .int .i64 ((readN l).uid), .int .i64 ((readN l).gid), .int .i64 ((readN l).time), .int .i64 ((readN l).links), .int .i64 ((readN l).size), q5]) rfl rfl (run_ex rfl rfl rfl) ?_
  simp only [nz1, nz2, nz3]
  refine lv 13 (.int .i64 (errRd l)) rfl rfl (run_ex rfl rfl rfl) ?_
  simp only [nz1, nz2, nz3]
  refine lst (wanted_none rfl) (m_alloc (c := #[.int .i64 0, .int .i64 0, .int .i64 0, .int .i64 0, .int .i64 0, .int .i64 0, .int .i64 0, .slice none 0 0]) (T := 48) hm10 3 rfl (by unfold execOp; go_simp; try rfl) (fun g13 w11 (hm12 : Mm none w w11 [.row q5 ((readN l).blocks.length) ((readN l).blocks.map iv) 3 1, .blk g13 #[.int .i64 0, .int .i64 0, .int .i64 0, .int .i64 0, .int .i64 0, .int .i64 0, .int .i64 0, .slice none 0 0] 48]) => ?_))
  simp only [nz1, nz2, nz3]
  have ho16 := own_one (hm12.row 0 rfl)
  refine lst (wanted_none rfl) (m_store 1 48 _ _ 0 (.agg #[.int .i64 ((readN l).kind), .int .i64 ((readN l).mode), .int .i64 ((readN l).uid), .int .i64 ((readN l).gid), .int .i64 ((readN l).time), .int .i64 ((readN l).links), .int .i64 ((readN l).size), q5]) (old := #[.int .i64 0, .int .i64 0, .int .i64 0, .int .i64 0, .int .i64 0, .int .i64 0, .int .i64 0, .slice none 0 0]) (new := #[.int .i64 ((readN l).kind), .int .i64 ((readN l).mode), .int .i64 ((readN l).uid), .int .i64 ((readN l).gid), .int .i64 ((readN l).time), .int .i64 ((readN l).links), .int .i64 ((readN l).size), q5]) hm12 rfl rfl rfl rfl rfl (by exact sz_node) (show 8 ≤ 8 from Nat.le_refl _) (by rw [Array.all_eq_true_iff_forall_mem]; intro x hx; simp only [Value.cells, List.mem_toArray, List.mem_cons, List.not_mem_nil, or_false] at hx; rcases hx with rfl | rfl | rfl | rfl | rfl | rfl | rfl | rfl <;> first | rfl | assumption) rfl (fun w14 (hm15 : Mm none w w14 [.row q5 ((readN l).blocks.length) ((readN l).blocks.map iv) 3 1, .blk g13 #[.int .i64 ((readN l).kind), .int .i64 ((readN l).mode), .int .i64 ((readN l).uid), .int .i64 ((readN l).gid), .int .i64 ((readN l).time), .int .i64 ((readN l).links), .int .i64 ((readN l).size), q5] 48]) => ?_))
  refine lv 4 (.int .i64 (errRd l)) rfl rfl (run_as rfl rfl) ?_
  simp only [nz1, nz2, nz3]
  refine wpList_nil ?_
  refine then_n (hK2 _ _ ?_)
  refine wp_seq_k (fun K17 hK17 => ?_)
  refine wp_region_lit ?_
  refine lv 15 (.string (tx l)) rfl rfl (run_mv rfl rfl) ?_
  simp only [nz1, nz2, nz3]
  refine lst (wanted_none rfl) (m_callx hm15 16 rfl (run_rRead rfl rfl) (calls_row (F := fun v => .tuple #[.agg #[.int .i64 (readN l).kind, .int .i64 (readN l).mode, .int .i64 (readN l).uid, .int .i64 (readN l).gid, .int .i64 (readN l).time, .int .i64 (readN l).links, .int .i64 (readN l).size, v], .int .i64 (errRd l)]) (rread_any l _)) (fun vv23 w18 hR21 hb22 hm19 => ?_))
  obtain ⟨q20, rfl, hq24⟩ := hR21
  have hm25 : Mm none w w18 [.row q5 ((readN l).blocks.length) ((readN l).blocks.map iv) 3 1, .blk g13 #[.int .i64 ((readN l).kind), .int .i64 ((readN l).mode), .int .i64 ((readN l).uid), .int .i64 ((readN l).gid), .int .i64 ((readN l).time), .int .i64 ((readN l).links), .int .i64 ((readN l).size), q5] 48, .row q20 ((readN l).blocks.length) ((readN l).blocks.map iv) 3 1] := hm15.gained hb22 hq24
  clear hm19
  simp only [nz1, nz2, nz3]
  refine lv 14 (.tuple #[.agg #[.int .i64 ((readN l).kind), .int .i64 ((readN l).mode), .int .i64 ((readN l).uid), .int .i64 ((readN l).gid), .int .i64 ((readN l).time), .int .i64 ((readN l).links), .int .i64 ((readN l).size), q20], .int .i64 (errRd l)]) rfl rfl (run_mv rfl rfl) ?_
  simp only [nz1, nz2, nz3]
  refine lv 17 (.agg #[.int .i64 ((readN l).kind), .int .i64 ((readN l).mode), .int .i64 ((readN l).uid), .int .i64 ((readN l).gid), .int .i64 ((readN l).time), .int .i64 ((readN l).links), .int .i64 ((readN l).size), q20]) rfl rfl (run_ex rfl rfl rfl) ?_
  simp only [nz1, nz2, nz3]
  refine lv 18 (.int .i64 (errRd l)) rfl rfl (run_ex rfl rfl rfl) ?_
  simp only [nz1, nz2, nz3]
  refine lst (wanted_none rfl) (m_alloc (c := #[.int .i64 0, .int .i64 0, .int .i64 0, .int .i64 0, .int .i64 0, .int .i64 0, .int .i64 0, .slice none 0 0]) (T := 48) hm25 5 rfl (by unfold execOp; go_simp; try rfl) (fun g28 w26 (hm27 : Mm none w w26 [.row q5 ((readN l).blocks.length) ((readN l).blocks.map iv) 3 1, .blk g13 #[.int .i64 ((readN l).kind), .int .i64 ((readN l).mode), .int .i64 ((readN l).uid), .int .i64 ((readN l).gid), .int .i64 ((readN l).time), .int .i64 ((readN l).links), .int .i64 ((readN l).size), q5] 48, .row q20 ((readN l).blocks.length) ((readN l).blocks.map iv) 3 1, .blk g28 #[.int .i64 0, .int .i64 0, .int .i64 0, .int .i64 0, .int .i64 0, .int .i64 0, .int .i64 0, .slice none 0 0] 48]) => ?_))
  simp only [nz1, nz2, nz3]
  have ho31 := own_one (hm27.row 2 rfl)
  refine lst (wanted_none rfl) (m_store 3 48 _ _ 0 (.agg #[.int .i64 ((readN l).kind), .int .i64 ((readN l).mode), .int .i64 ((readN l).uid), .int .i64 ((readN l).gid), .int .i64 ((readN l).time), .int .i64 ((readN l).links), .int .i64 ((readN l).size), q20]) (old := #[.int .i64 0, .int .i64 0, .int .i64 0, .int .i64 0, .int .i64 0, .int .i64 0, .int .i64 0, .slice none 0 0]) (new := #[.int .i64 ((readN l).kind), .int .i64 ((readN l).mode), .int .i64 ((readN l).uid), .int .i64 ((readN l).gid), .int .i64 ((readN l).time), .int .i64 ((readN l).links), .int .i64 ((readN l).size), q20]) hm27 rfl rfl rfl rfl rfl (by exact sz_node) (show 8 ≤ 8 from Nat.le_refl _) (by rw [Array.all_eq_true_iff_forall_mem]; intro x hx; simp only [Value.cells, List.mem_toArray, List.mem_cons, List.not_mem_nil, or_false] at hx; rcases hx with rfl | rfl | rfl | rfl | rfl | rfl | rfl | rfl <;> first | rfl | assumption) rfl (fun w29 (hm30 : Mm none w w29 [.row q5 ((readN l).blocks.length) ((readN l).blocks.map iv) 3 1, .blk g13 #[.int .i64 ((readN l).kind), .int .i64 ((readN l).mode), .int .i64 ((readN l).uid), .int .i64 ((readN l).gid), .int .i64 ((readN l).time), .int .i64 ((readN l).links), .int .i64 ((readN l).size), q5] 48, .row q20 ((readN l).blocks.length) ((readN l).blocks.map iv) 3 1, .blk g28 #[.int .i64 ((readN l).kind), .int .i64 ((readN l).mode), .int .i64 ((readN l).uid), .int .i64 ((readN l).gid), .int .i64 ((readN l).time), .int .i64 ((readN l).links), .int .i64 ((readN l).size), q20] 48]) => ?_))
  refine lv 6 (.int .i64 (errRd l)) rfl rfl (run_as rfl rfl) ?_
  simp only [nz1, nz2, nz3]
  refine wpList_nil ?_
  refine then_n (hK17 _ _ ?_)
  refine wp_seq_k (fun K32 hK32 => ?_)
  refine wp_region_lit ?_
  refine lv 20 (.agg #[.int .i64 ((readN l).kind), .int .i64 ((readN l).mode), .int .i64 ((readN l).uid), .int .i64 ((readN l).gid), .int .i64 ((readN l).time), .int .i64 ((readN l).links), .int .i64 ((readN l).size), q5]) rfl rfl (r_whole (hm30.at 1 rfl) Try.underlying48 rfl (by exact sz_node) rfl rfl) ?_
  simp only [nz1, nz2, nz3]
  refine lst (wanted_none rfl) (m_call hm30 21 (.tuple #[.string (tx (bytesR (readN l))), .int .i64 (errR (readN l))]) rfl (run_Bytes rfl rfl) (bytes_any (readN l) q5 _ (Rd.of_row (hm30.row 0 rfl))) (fun w33 (hm34 : Mm none w w33 [.row q5 ((readN l).blocks.length) ((readN l).blocks.map iv) 3 1, .blk g13 #[.int .i64 ((readN l).kind), .int .i64 ((readN l).mode), .int .i64 ((readN l).uid), .int .i64 ((readN l).gid), .int .i64 ((readN l).time), .int .i64 ((readN l).links), .int .i64 ((readN l).size), q5] 48, .row q20 ((readN l).blocks.length) ((readN l).blocks.map iv) 3 1, .blk g28 #[.int .i64 ((readN l).kind), .int .i64 ((readN l).mode), .int .i64 ((readN l).uid), .int .i64 ((readN l).gid), .int .i64 ((readN l).time), .int .i64 ((readN l).links), .int .i64 ((readN l).size), q20] 48]) => ?_))
  simp only [nz1, nz2, nz3]
  refine lv 19 (.tuple #[.string (tx (bytesR (readN l))), .int .i64 (errR (readN l))]) rfl rfl (run_mv rfl rfl) ?_
  simp only [nz1, nz2, nz3]
  refine lv 22 (.string (tx (bytesR (readN l)))) rfl rfl (run_ex rfl rfl rfl) ?_
  simp only [nz1, nz2, nz3]
  refine lv 23 (.int .i64 (errR (readN l))) rfl rfl (run_ex rfl rfl rfl) ?_
  simp only [nz1, nz2, nz3]
  refine lv 7 (.string (tx (bytesR (readN l)))) rfl rfl (run_as rfl rfl) ?_
  simp only [nz1, nz2, nz3]
  refine lv 8 (.int .i64 (errR (readN l))) rfl rfl (run_as rfl rfl) ?_
  simp only [nz1, nz2, nz3]
  refine wpList_nil ?_
  refine then_n (hK32 _ _ ?_)
  refine wp_seq_k (fun K35 hK35 => ?_)
  refine wp_region_lit ?_
  refine lst (wanted_none rfl) (m_call hm34 24 (.bool true) rfl (run_awake rfl) (awake_any _) (fun w36 (hm37 : Mm none w w36 [.row q5 ((readN l).blocks.length) ((readN l).blocks.map iv) 3 1, .blk g13 #[.int .i64 ((readN l).kind), .int .i64 ((readN l).mode), .int .i64 ((readN l).uid), .int .i64 ((readN l).gid), .int .i64 ((readN l).time), .int .i64 ((readN l).links), .int .i64 ((readN l).size), q5] 48, .row q20 ((readN l).blocks.length) ((readN l).blocks.map iv) 3 1, .blk g28 #[.int .i64 ((readN l).kind), .int .i64 ((readN l).mode), .int .i64 ((readN l).uid), .int .i64 ((readN l).gid), .int .i64 ((readN l).time), .int .i64 ((readN l).links), .int .i64 ((readN l).size), q20] 48]) => ?_))
  simp only [nz1, nz2, nz3]
  refine lv 25 (.bool true) rfl rfl (run_mv rfl rfl) ?_
  simp only [nz1, nz2, nz3]
  refine lvw 26 (.agg #[.int .i64 ((readN l).kind), .int .i64 ((readN l).mode), .int .i64 ((readN l).uid), .int .i64 ((readN l).gid), .int .i64 ((readN l).time), .int .i64 ((readN l).links), .int .i64 ((readN l).size), q5]) rfl rfl (r_whole (hm37.at 1 rfl) Try.underlying48 rfl (by exact sz_node) rfl rfl) ?_
  simp only [nz1, nz2, nz3]
  refine lvw 27 (.agg #[.int .i64 ((readN l).kind), .int .i64 ((readN l).mode), .int .i64 ((readN l).uid), .int .i64 ((readN l).gid), .int .i64 ((readN l).time), .int .i64 ((readN l).links), .int .i64 ((readN l).size), q20]) rfl rfl (r_whole (hm37.at 3 rfl) Try.underlying48 rfl (by exact sz_node) rfl rfl) ?_
  simp only [nz1, nz2, nz3]
  refine lst rfl (m_call hm37 28 (.bool true) rfl (run_rSame rfl rfl rfl) (rsame_self (readN l) q5 q20 _ (Rd.of_row (hm37.row 0 rfl)) (Rd.of_row (hm37.row 2 rfl)) (by have := read_few l; omega)) (fun w38 (hm39 : Mm none w w38 [.row q5 ((readN l).blocks.length) ((readN l).blocks.map iv) 3 1, .blk g13 #[.int .i64 ((readN l).kind), .int .i64 ((readN l).mode), .int .i64 ((readN l).uid), .int .i64 ((readN l).gid), .int .i64 ((readN l).time), .int .i64 ((readN l).links), .int .i64 ((readN l).size), q5] 48, .row q20 ((readN l).blocks.length) ((readN l).blocks.map iv) 3 1, .blk g28 #[.int .i64 ((readN l).kind), .int .i64 ((readN l).mode), .int .i64 ((readN l).uid), .int .i64 ((readN l).gid), .int .i64 ((readN l).time), .int .i64 ((readN l).links), .int .i64 ((readN l).size), q20] 48]) => ?_))
  simp only [nz1, nz2, nz3]
  refine lv 29 (.bool true) rfl rfl (run_pick rfl rfl rfl) ?_
  simp only [nz1, nz2, nz3]
  refine lv 30 (.bool true) rfl rfl (run_mv rfl rfl) ?_
  simp only [nz1, nz2, nz3]
  refine lvw 31 (.int .i64 (errRd l)) rfl rfl (run_mv rfl rfl) ?_
  simp only [nz1, nz2, nz3]
  refine lvw 32 (.int .i64 (errRd l)) rfl rfl (run_mv rfl rfl) ?_
  simp only [nz1, nz2, nz3]
  refine lvw 33 (.bool true) rfl rfl (z_eqlt (errRd l) (errRd l) rfl rfl rfl rfl) ?_
  simp only [nz1, nz2, nz3]
  refine lv 34 (.bool true) rfl rfl (run_pick rfl rfl rfl) ?_
  simp only [nz1, nz2, nz3]
  refine lv 35 (.bool true) rfl rfl (run_mv rfl rfl) ?_
  simp only [nz1, nz2, nz3]
  refine lvw 36 (.int .i64 (errRd l)) rfl rfl (run_mv rfl rfl) ?_
  simp only [nz1, nz2, nz3]
  refine lvb 37 (¬ errRd l = ((0 : Nat) : Int)) rfl rfl (z_neq (errRd l) ((0 : Nat) : Int) rfl rfl rfl) (fun hs40 => ?_) (fun hs40 => ?_)
  · simp only [nz1, nz2, nz3]
    refine lvw 38 (.bool true) rfl rfl (run_mv rfl rfl) ?_
    simp only [nz1, nz2, nz3]
    refine lst_skip 39 rfl rfl ?_
    simp only [nz1, nz2, nz3]
    refine lst_skip 40 rfl rfl ?_
    simp only [nz1, nz2, nz3]
    refine lst_skip 41 rfl rfl ?_
    simp only [nz1, nz2, nz3]
    refine lst_skip 42 rfl rfl ?_
    simp only [nz1, nz2, nz3]
    refine lst_skip 43 rfl rfl ?_
    simp only [nz1, nz2, nz3]
    refine lst_skip 44 rfl rfl ?_
    simp only [nz1, nz2, nz3]
    refine lst_skip 45 rfl rfl ?_
    simp only [nz1, nz2, nz3]
    refine lvw 46 (.bool true) rfl rfl (run_pick rfl rfl rfl) ?_
    simp only [nz1, nz2, nz3]
    refine lv 47 (.bool true) rfl rfl (run_pick rfl rfl rfl) ?_
    simp only [nz1, nz2, nz3]
    refine lv 2 (.bool true) rfl rfl (run_as rfl rfl) ?_
    simp only [nz1, nz2, nz3]
    refine wpList_nil ?_
    refine then_n (hK35 _ _ ?_)
    refine wp_ret ?_
    exact ⟨rfl, .bool true, res_t rfl rfl, ⟨rfl, hm39.below⟩⟩
  simp only [nz1, nz2, nz3]
  refine lvw 38 (.bool false) rfl rfl (run_mv rfl rfl) ?_
  simp only [nz1, nz2, nz3]
  refine lvw 39 (.int .i64 (errR (readN l))) rfl rfl (run_mv rfl rfl) ?_
  simp only [nz1, nz2, nz3]
  refine lvw 40 (.bool true) rfl rfl (z_eqlt (errR (readN l)) 0 (good_err (good_of (Classical.not_not.1 hs40))) rfl rfl rfl) ?_
  simp only [nz1, nz2, nz3]
  refine lvw 41 (.bool true) rfl rfl (run_mv rfl rfl) ?_
  simp only [nz1, nz2, nz3]
  refine lvw 42 (.string (tx (bytesR (readN l)))) rfl rfl (run_mv rfl rfl) ?_
  simp only [nz1, nz2, nz3]
  refine lvw 43 (.string (tx l)) rfl rfl (run_mv rfl rfl) ?_
  simp only [nz1, nz2, nz3]
  refine lvw 44 (.bool true) rfl rfl (t_eqt (bytesR (readN l)) l (good_back (good_of (Classical.not_not.1 hs40))) rfl rfl rfl) ?_
  simp only [nz1, nz2, nz3]
  refine lvw 45 (.bool true) rfl rfl (run_pick rfl rfl rfl) ?_
  simp only [nz1, nz2, nz3]
  refine lvw 46 (.bool true) rfl rfl (run_pickf rfl rfl rfl) ?_
  simp only [nz1, nz2, nz3]
  refine lv 47 (.bool true) rfl rfl (run_pick rfl rfl rfl) ?_
  simp only [nz1, nz2, nz3]
  refine lv 2 (.bool true) rfl rfl (run_as rfl rfl) ?_
  simp only [nz1, nz2, nz3]
  refine wpList_nil ?_
  refine then_n (hK35 _ _ ?_)
  refine wp_ret ?_
  exact ⟨rfl, .bool true, res_t rfl rfl, ⟨rfl, hm39.below⟩⟩
theorem walk (s : ByteArray) (w : World) : Calls Try.prog 9 #[.string s] w (fun e w' => e = .returned (.bool true) ∧ Below w.heap.size w w') := by
  rw [← tx_bl s]
  exact walk_l (bl s) w
set_option maxRecDepth 100000 in
theorem lifted (os : Os) (started : os.Started) (H : Type) (enc : TypeId × Value → H) :
    ReturnsInHanded {} Try.checked os 9 .any (Rows.inodeReadsSpec.pre6 enc Try.prog Try.f9 Rows.inodeReadsRow.domain false) (Rows.inodeReadsSpec.post enc Try.prog Try.f9 false true false false) := by
  refine returnsInHanded_of_change (C := Try.checked) own started (by kernel_rfl) Try.func9
    (ChangeSpec.witness6 (enc := enc) (C := Try.checked) false ⟨#[], #[.string .empty], []⟩ 8 (by kernel_rfl) (by kernel_rfl) (by kernel_rfl) (by kernel_rfl)) ?_
  intro W base args ds gs before hval0 hW hcnd _
  have hval : ∀ (j : Nat) t v, Try.f9.params[j]? = some t → args[j]? = some v → Value.okWide Try.prog W .any base t v := hval0
  have hW' := hW
  obtain ⟨p, q, hA0, hV, rfl, hfz, hnd⟩ := hW
  have hA : DataW.TrodAll enc Try.prog W 0 (fun _ => true) true Try.f9.params.toList args.toList ds p := hA0
  rw [Try.params9] at hA hval
  obtain ⟨v0, vs0, d0, ds0, p0, q0, hargs, rfl, rfl, h0, r0⟩ := trodAll_cons hA
  obtain ⟨rfl, rfl, rfl⟩ := trodAll_nil r0
  obtain rfl : args = #[v0] := by cases args; simp_all
  obtain ⟨rfl, rfl⟩ := trodVars_none hV
  obtain ⟨a0, rfl, rfl, rfl, m0⟩ := open_string Try.underlying9 (hval 0 9 v0 rfl rfl) h0
  clear hA0 hval0
  simp only [List.append_nil] at hW'
  refine (walk a0 W).mono fun e W' ⟨he, hg⟩ => ?_
  subst he
  exact ⟨_, rfl, _, _, _, [], [], [], hW', (trodAll_cons_mk (shut_bool Try.underlying4 _) trodAll_mk0), (trodAll_cons_mk (shut_string Try.underlying9 m0) trodAll_mk0), rfl, hg.frame _, fun h => by cases h⟩

theorem over : Rows.inodeReadsRow.holds Try.pinned (OpenSpec.ofChange Rows.inodeReadsSpec) :=
  OpenClaim.holds_of_wide 9 Try.f9 rfl rfl rfl rfl rfl rfl rfl ⟨rfl, rfl, rfl, rfl, rfl⟩ rfl rfl rfl rfl rfl (by kernel_rfl) Try.func9 (by kernel_rfl)
    (of_decide_eq_true (by kernel_rfl)) (by unfold Func.isWrapper; first | (rw [if_pos (by decide +kernel)]; kernel_rfl) | (rw [if_neg (by decide +kernel)]; exact ⟨rfl, rfl⟩))
    (fun os started H enc _ => lifted os started H enc)

/-- The statement. -/
theorem proved : Rows.InodeReadsSaid :=
  over
#print axioms proved
end Go.Proofs.Ytmammofbgllceaa.inodeReads
