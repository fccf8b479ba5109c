/- Any node: whether it may be, and its sector, are the document's; it is read from it: InodeBytes returns true, for every node. No condition. -/
import Derived.Test.YtmammofbgllceaaRows
import Derived.Test.YtmammofbgllceaaNodH
import Derived.Test.YtmammofbgllceaaNodK
import Derived.Test.YtmammofbgllceaaNodG
import Derived.WalkKit
import Derived.ProofKit
import Derived.OpenShut
import Derived.ChangeMaps5
import Derived.Carry
import Derived.Test.YtmammofbgllceaaNodO
import Derived.Test.YtmammofbgllceaaNodP
namespace Go.Proofs.Ytmammofbgllceaa.inodeBytes
open Go.ChangeShapes Go.WideShapes Go.ChangeAt Go.RowKit Go.ChangeMaps
open Go.Proofs.Ytmammofbgllceaa Go.Proofs.Ytmammofbgllceaa.Nod
open Go.Proofs.Ytmammofbgllceaa.Sym Go.Proofs.Ytmammofbgllceaa.Mem
open Go.Proofs.Ytmammofbgllceaa.Sx hiding Mm m_alloc m_store m_put m_call m_callx m_make m_append r_string r_ixS
set_option linter.unusedVariables false

theorem own : ownKnob Try.prog.godebug = none := by kernel_rfl
attribute [local irreducible] wpList Oper.wp
theorem lvw {P : Program} {ops : Array Oper} {Q : Exit → Act → World → Prop} {oi : Oper} {rest : List Oper} {a : Act} {w : World} (d : Tmp) (v : Value) (hg : Region.wanted oi (yielded ops a.tmps) = true) (hd : oi.dst = some d) (hrun : (execOp a.eval oi).run P w = .ok (.value v) w)
    (h : wpList P ops Q rest { a with tmps := a.tmps.setIfInBounds d v } w) : wpList P ops Q (oi :: rest) a w :=
  Sym.lst hg (Sym.w_value d v hd hrun h)
theorem z_eqlt {P : Program} {o : Oper} {a : Act} {w : World} {x y : Operand} {T T' : TypeId} {k : IntKind} (n m : Int) (h : n = m) (ho : o.op = .binOp .eql T x y T') (hx : a.eval x = .int k n) (hy : a.eval y = .int k m) : (execOp a.eval o).run P w = .ok (.value (.bool true)) w := by
  have := z_eql (P := P) (w := w) n m ho hx hy
  rw [decide_eq_true h] at this
  exact this
theorem t_eqt {P : Program} {o : Oper} {a : Act} {w : World} {x y : Operand} {T T' : TypeId} (s t : List UInt8) (h : s = t) (ho : o.op = .binOp .eql T x y T') (hx : a.eval x = .string (tx s)) (hy : a.eval y = .string (tx t)) : (execOp a.eval o).run P w = .ok (.value (.bool true)) w := by
  have := t_eql (P := P) (w := w) s t ho hx hy
  rw [decide_eq_true h] at this
  exact this
theorem good_of {l : List UInt8} (h : errRd l = 0) : goodR l := by
  by_cases hg : goodR l
  · exact hg
  · rw [errRd, if_neg hg] at h; cases h
theorem good_err {l : List UInt8} (h : goodR l) : errR (readN l) = 0 := by rw [readN, if_pos h, errR, if_pos h.2.2.1]
theorem good_back {l : List UInt8} (h : goodR l) : bytesR (readN l) = l := by rw [readN, if_pos h, bytesR, if_pos h.2.2.1, h.2.2.2]
theorem read_few (l : List UInt8) : (readN l).blocks.length ≤ 57 := by
  by_cases h : goodR l
  · have := check_len h.2.2.1
    rwa [readN, if_pos h]
  · rw [readN, if_neg h]; decide
theorem laidOut : laidOutB Try.prog = true := by kernel_rfl
theorem b_eqlt {o : Oper} {a : Act} {w : World} {x y : Operand} (p : Bool) (ho : o.op = .binOp .eql 4 x y 4) (hx : a.eval x = .bool p) (hy : a.eval y = .bool p) : (execOp a.eval o).run Try.prog w = .ok (.value (.bool true)) w := by
  unfold execOp
  simp only [ho, hx, hy]
  generalize a.eval = f at *
  cases p <;> go_simp
theorem rsame_eq (x y : Nd) (h : y = x) (v v' : Value) (w : World) (hb : Rd w v x.blocks.length 1 (x.blocks.map iv)) (hb' : Rd w v' y.blocks.length 1 (y.blocks.map iv)) (hsz : x.blocks.length ≤ 1000000000000) :
    Calls Try.prog 33 #[.agg #[.int .i64 x.kind, .int .i64 x.mode, .int .i64 x.uid, .int .i64 x.gid, .int .i64 x.time, .int .i64 x.links, .int .i64 x.size, v], .agg #[.int .i64 y.kind, .int .i64 y.mode, .int .i64 y.uid, .int .i64 y.gid, .int .i64 y.time, .int .i64 y.links, .int .i64 y.size, v']] w (fun e w' => e = .returned (.bool true) ∧ Below w.heap.size w w') := by
  subst h
  exact rsame_self y v v' w hb hb' hsz
set_option maxHeartbeats 4000000 in
set_option maxRecDepth 100000 in
theorem walk (x : Nd) (v : Value) (w : World) (hb : Rd w v x.blocks.length 1 (x.blocks.map iv)) (ht : x.time ≤ 9223372036854775807) : Calls Try.prog 8 #[.agg #[.int .i64 (x.kind), .int .i64 (x.mode), .int .i64 (x.uid), .int .i64 (x.gid), .int .i64 (x.time), .int .i64 (x.links), .int .i64 (x.size), v]] w (fun e w' => e = .returned (.bool true) ∧ Below w.heap.size w w') := by
  go_enter Try.func8, Try.ntmps8
  have hm0 := Mm.nil none w
  refine wp_seq_k (fun K1 hK1 => ?_)
  refine wp_region_lit ?_
  refine lst (wanted_none rfl) (m_alloc (c := #[.int .i64 (x.kind), .int .i64 (x.mode), .int .i64 (x.uid), .int .i64 (x.gid), .int .i64 (x.time), .int .i64 (x.links), .int .i64 (x.size), v]) (T := 48) hm0 1 rfl (run_box rfl rfl) (fun g4 w2 (hm3 : Mm none w w2 [.blk g4 #[.int .i64 (x.kind), .int .i64 (x.mode), .int .i64 (x.uid), .int .i64 (x.gid), .int .i64 (x.time), .int .i64 (x.links), .int .i64 (x.size), v] 48]) => ?_))
  simp only [nz1, nz2, nz3]
  refine lv 2 (.bool false) rfl rfl (run_as rfl rfl) ?_
  simp only [nz1, nz2, nz3]
  refine wpList_nil ?_
  refine then_n (hK1 _ _ ?_)
  refine wp_seq_k (fun K5 hK5 => ?_)
  refine wp_region_lit ?_
  refine lv 10 (.agg #[.int .i64 (x.kind), .int .i64 (x.mode), .int .i64 (x.uid), .int .i64 (x.gid), .int .i64 (x.time), .int .i64 (x.links), .int .i64 (x.size), v]) rfl rfl (r_whole (hm3.at 0 rfl) Try.underlying48 rfl (by exact sz_node) rfl rfl) ?_
  simp only [nz1, nz2, nz3]
  refine lst (wanted_none rfl) (m_call hm3 11 (.tuple #[.string (tx (bytesR x)), .int .i64 (errR x)]) rfl (run_Bytes rfl rfl) (bytes_any x v _ (hb.below hm3.below)) (fun w6 (hm7 : Mm none w w6 [.blk g4 #[.int .i64 (x.kind), .int .i64 (x.mode), .int .i64 (x.uid), .int .i64 (x.gid), .int .i64 (x.time), .int .i64 (x.links), .int .i64 (x.size), v] 48]) => ?_))
  simp only [nz1, nz2, nz3]
  refine lv 9 (.tuple #[.string (tx (bytesR x)), .int .i64 (errR x)]) rfl rfl (run_mv rfl rfl) ?_
  simp only [nz1, nz2, nz3]
  refine lv 12 (.string (tx (bytesR x))) rfl rfl (run_ex rfl rfl rfl) ?_
  simp only [nz1, nz2, nz3]
  refine lv 13 (.int .i64 (errR x)) rfl rfl (run_ex rfl rfl rfl) ?_
  simp only [nz1, nz2, nz3]
  refine lv 3 (.string (tx (bytesR x))) rfl rfl (run_as rfl rfl) ?_
  simp only [nz1, nz2, nz3]
  refine lv 4 (.int .i64 (errR x)) rfl rfl (run_as rfl rfl) ?_
  simp only [nz1, nz2, nz3]
  refine wpList_nil ?_
  refine then_n (hK5 _ _ ?_)
  refine wp_seq_k (fun K8 hK8 => ?_)
  refine wp_region_lit ?_
  refine lv 15 (.agg #[.int .i64 (x.kind), .int .i64 (x.mode), .int .i64 (x.uid), .int .i64 (x.gid), .int .i64 (x.time), .int .i64 (x.links), .int .i64 (x.size), v]) rfl rfl (r_whole (hm7.at 0 rfl) Try.underlying48 rfl (by exact sz_node) rfl rfl) ?_
  simp only [nz1, nz2, nz3]
  refine lst (wanted_none rfl) (m_call hm7 16 (.tuple #[.string (tx (bytesR x)), .int .i64 (errR x)]) rfl (run_rBytes rfl rfl) (rbytes_any x v _ (hb.below hm7.below)) (fun w9 (hm10 : Mm none w w9 [.blk g4 #[.int .i64 (x.kind), .int .i64 (x.mode), .int .i64 (x.uid), .int .i64 (x.gid), .int .i64 (x.time), .int .i64 (x.links), .int .i64 (x.size), v] 48]) => ?_))
  simp only [nz1, nz2, nz3]
  refine lv 14 (.tuple #[.string (tx (bytesR x)), .int .i64 (errR x)]) rfl rfl (run_mv rfl rfl) ?_
  simp only [nz1, nz2, nz3]
  refine lv 17 (.string (tx (bytesR x))) rfl rfl (run_ex rfl rfl rfl) ?_
  simp only [nz1, nz2, nz3]
  refine lv 18 (.int .i64 (errR x)) rfl rfl (run_ex rfl rfl rfl) ?_
  simp only [nz1, nz2, nz3]
  refine lv 5 (.string (tx (bytesR x))) rfl rfl (run_as rfl rfl) ?_
  simp only [nz1, nz2, nz3]
  refine lv 6 (.int .i64 (errR x)) rfl rfl (run_as rfl rfl) ?_
  simp only [nz1, nz2, nz3]
  refine wpList_nil ?_
  refine then_n (hK8 _ _ ?_)
  refine wp_seq_k (fun K11 hK11 => ?_)
  refine wp_region_lit ?_
  refine lv 20 (.string (tx (bytesR x))) rfl rfl (run_mv rfl rfl) ?_
  simp only [nz1, nz2, nz3]
  refine lst (wanted_none rfl) (m_callx hm10 21 rfl (run_Read rfl rfl) (calls_row (F := fun v => .tuple #[.agg #[.int .i64 (readN (bytesR x)).kind, .int .i64 (readN (bytesR x)).mode, .int .i64 (readN (bytesR x)).uid, .int .i64 (readN (bytesR x)).gid, .int .i64 (readN (bytesR x)).time, .int .i64 (readN (bytesR x)).links, .int .i64 (readN (bytesR x)).size, v], .int .i64 (errRd (bytesR x))]) (read_any (bytesR x) _)) (fun vv17 w12 hR15 hb16 hm13 => ?_))
  obtain ⟨q14, rfl, hq18⟩ := hR15
  have hm19 : Mm none w w12 [.blk g4 #[.int .i64 (x.kind), .int .i64 (x.mode), .int .i64 (x.uid), .int .i64 (x.gid), .int .i64 (x.time), .int .i64 (x.links), .int .i64 (x.size), v] 48, .row q14 ((readN (bytesR x)).blocks.length) ((readN (bytesR x)).blocks.map iv) 3 1] := hm10.gained hb16 hq18
  clear hm13
  simp only [nz1, nz2, nz3]
  refine lv 19 (.tuple #[.agg #[.int .i64 ((readN (bytesR x)).kind), .int .i64 ((readN (bytesR x)).mode), .int .i64 ((readN (bytesR x)).uid), .int .i64 ((readN (bytesR x)).gid), .int .i64 ((readN (bytesR x)).time), .int .i64 ((readN (bytesR x)).links), .int .i64 ((readN (bytesR x)).size), q14], .int .i64 (errRd (bytesR x))]) rfl rfl (run_mv rfl rfl) ?_
  simp only [nz1, nz2, nz3]
  refine lv 22 (.agg #[.int .i64 ((readN (bytesR x)).kind), .int .i64 ((readN (bytesR x)).mode), .int .i64 ((readN (bytesR x)).uid), .int .i64 ((readN (bytesR x)).gid), .int .i64 ((readN (bytesR x)).time), .int .i64 ((readN (bytesR x)).links), .int .i64 ((readN (bytesR x)).size), q14]) rfl rfl (run_ex rfl rfl rfl) ?_
  simp only [nz1, nz2, nz3]
  refine lv 23 (.int .i64 (errRd (bytesR x))) rfl rfl (run_ex rfl rfl rfl) ?_
  simp only [nz1, nz2, nz3]
  refine lst (wanted_none rfl) (m_alloc (c := #[.int .i64 0, .int .i64 0, .int .i64 0, .int .i64 0, .int .i64 0, .int .i64 0, .int .i64 0, .slice none 0 0]) (T := 48) hm19 7 rfl (by unfold execOp; go_simp; try rfl) (fun g22 w20 (hm21 : Mm none w w20 [.blk g4 #[.int .i64 (x.kind), .int .i64 (x.mode), .int .i64 (x.uid), .int .i64 (x.gid), .int .i64 (x.time), .int .i64 (x.links), .int .i64 (x.size), v] 48, .row q14 ((readN (bytesR x)).blocks.length) ((readN (bytesR x)).blocks.map iv) 3 1, .blk g22 #[.int .i64 0, .int .i64 0, .int .i64 0, .int .i64 0, .int .i64 0, .int .i64 0, .int .i64 0, .slice none 0 0] 48]) => ?_))
  simp only [nz1, nz2, nz3]
  have ho25 := own_one (hm21.row 1 rfl)
  refine lst (wanted_none rfl) (m_store 2 48 _ _ 0 (.agg #[.int .i64 ((readN (bytesR x)).kind), .int .i64 ((readN (bytesR x)).mode), .int .i64 ((readN (bytesR x)).uid), .int .i64 ((readN (bytesR x)).gid), .int .i64 ((readN (bytesR x)).time), .int .i64 ((readN (bytesR x)).links), .int .i64 ((readN (bytesR x)).size), q14]) (old := #[.int .i64 0, .int .i64 0, .int .i64 0, .int .i64 0, .int .i64 0, .int .i64 0, .int .i64 0, .slice none 0 0]) (new := #[.int .i64 ((readN (bytesR x)).kind), .int .i64 ((readN (bytesR x)).mode), .int .i64 ((readN (bytesR x)).uid), .int .i64 ((readN (bytesR x)).gid), .int .i64 ((readN (bytesR x)).time), .int .i64 ((readN (bytesR x)).links), .int .i64 ((readN (bytesR x)).size), q14]) hm21 rfl rfl rfl rfl rfl (by exact sz_node) (show 8 ≤ 8 from Nat.le_refl _) (by rw [Array.all_eq_true_iff_forall_mem]; intro x hx; simp only [Value.cells, List.mem_toArray, List.mem_cons, List.not_mem_nil, or_false] at hx; rcases hx with rfl | rfl | rfl | rfl | rfl | rfl | rfl | rfl <;> first | rfl | assumption) rfl (fun w23 (hm24 : Mm none w w23 [.blk g4 #[.int .i64 (x.kind), .int .i64 (x.mode), .int .i64 (x.uid), .int .i64 (x.gid), .int .i64 (x.time), .int .i64 (x.links), .int .i64 (x.size), v] 48, .row q14 ((readN (bytesR x)).blocks.length) ((readN (bytesR x)).blocks.map iv) 3 1, .blk g22 #[.int .i64 ((readN (bytesR x)).kind), .int .i64 ((readN (bytesR x)).mode), .int .i64 ((readN (bytesR x)).uid), .int .i64 ((readN (bytesR x)).gid), .int .i64 ((readN (bytesR x)).time), .int .i64 ((readN (bytesR x)).links), .int .i64 ((readN (bytesR x)).size), q14] 48]) => ?_))
  refine lv 8 (.int .i64 (errRd (bytesR x))) rfl rfl (run_as rfl rfl) ?_
  simp only [nz1, nz2, nz3]
  refine wpList_nil ?_
  refine then_n (hK11 _ _ ?_)
  refine wp_seq_k (fun K26 hK26 => ?_)
  have hm27 := hm24.drew
  refine wp_region_held_drew (S := fun w' => Mem.Blk w' g4 (#[.int .i64 (x.kind), .int .i64 (x.mode), .int .i64 (x.uid), .int .i64 (x.gid), .int .i64 (x.time), .int .i64 (x.links), .int .i64 (x.size), v]) 48 ∧ Mem.Blk w' g22 (#[.int .i64 ((readN (bytesR x)).kind), .int .i64 ((readN (bytesR x)).mode), .int .i64 ((readN (bytesR x)).uid), .int .i64 ((readN (bytesR x)).gid), .int .i64 ((readN (bytesR x)).time), .int .i64 ((readN (bytesR x)).links), .int .i64 ((readN (bytesR x)).size), q14]) 48) (by kernel_rfl) (⟨hm27.at 0 rfl, hm27.at 2 rfl⟩) (fun _ => ?_)
  generalize w23.drew = w28 at *
  refine one_ready 0 (by kernel_rfl) ?_
  refine opd rfl (wanted_none rfl) (m_call hm27 24 (.bool true) rfl (run_awake rfl) (awake_any _) (fun w29 (hm30 : Mm none w w29 [.blk g4 #[.int .i64 (x.kind), .int .i64 (x.mode), .int .i64 (x.uid), .int .i64 (x.gid), .int .i64 (x.time), .int .i64 (x.links), .int .i64 (x.size), v] 48, .row q14 ((readN (bytesR x)).blocks.length) ((readN (bytesR x)).blocks.map iv) 3 1, .blk g22 #[.int .i64 ((readN (bytesR x)).kind), .int .i64 ((readN (bytesR x)).mode), .int .i64 ((readN (bytesR x)).uid), .int .i64 ((readN (bytesR x)).gid), .int .i64 ((readN (bytesR x)).time), .int .i64 ((readN (bytesR x)).links), .int .i64 ((readN (bytesR x)).size), q14] 48]) => ?_))
  refine ⟨⟨hm30.at 0 rfl, hm30.at 2 rfl⟩, ?_⟩
  simp only [nz1, nz2, nz3]
  refine tk 1 25 (.bool true) rfl rfl (fun _ hw => run_mv rfl rfl) (⟨hm30.at 0 rfl, hm30.at 2 rfl⟩) ?_
  simp only [nz1, nz2, nz3]
  refine Sym.take_at 2 26 (.string (tx (bytesR x))) rfl rfl (by kernel_rfl) (by kernel_rfl) (by kernel_rfl) (fun _ _ _ h => h) rfl (fun _ hw => run_mv rfl rfl) (⟨hm30.at 0 rfl, hm30.at 2 rfl⟩) ?_
  simp only [nz1, nz2, nz3]
  refine Sym.take_at 3 27 (.string (tx (bytesR x))) rfl rfl (by kernel_rfl) (by kernel_rfl) (by kernel_rfl) (fun _ _ _ h => h) rfl (fun _ hw => run_mv rfl rfl) (⟨hm30.at 0 rfl, hm30.at 2 rfl⟩) ?_
  simp only [nz1, nz2, nz3]
  refine Sym.take_at 4 28 (.bool true) rfl rfl (by kernel_rfl) (by kernel_rfl) (by kernel_rfl) (fun _ _ _ h => h) rfl (fun _ hw => t_eqt (bytesR x) (bytesR x) rfl rfl rfl rfl) (⟨hm30.at 0 rfl, hm30.at 2 rfl⟩) ?_
  simp only [nz1, nz2, nz3]
  refine tk 5 29 (.bool true) rfl rfl (fun _ hw => run_pick rfl rfl rfl) (⟨hm30.at 0 rfl, hm30.at 2 rfl⟩) ?_
  simp only [nz1, nz2, nz3]
  refine tk 6 30 (.bool true) rfl rfl (fun _ hw => run_mv rfl rfl) (⟨hm30.at 0 rfl, hm30.at 2 rfl⟩) ?_
  simp only [nz1, nz2, nz3]
  refine Sym.take_at 7 31 (.int .i64 (errR x)) rfl rfl (by kernel_rfl) (by kernel_rfl) (by kernel_rfl) (fun _ _ _ h => h) rfl (fun _ hw => run_mv rfl rfl) (⟨hm30.at 0 rfl, hm30.at 2 rfl⟩) ?_
  simp only [nz1, nz2, nz3]
  refine Sym.take_at 8 32 (.int .i64 (errR x)) rfl rfl (by kernel_rfl) (by kernel_rfl) (by kernel_rfl) (fun _ _ _ h => h) rfl (fun _ hw => run_mv rfl rfl) (⟨hm30.at 0 rfl, hm30.at 2 rfl⟩) ?_
  simp only [nz1, nz2, nz3]
  refine Sym.take_at 9 33 (.bool true) rfl rfl (by kernel_rfl) (by kernel_rfl) (by kernel_rfl) (fun _ _ _ h => h) rfl (fun _ hw => z_eqlt (errR x) (errR x) rfl rfl rfl rfl) (⟨hm30.at 0 rfl, hm30.at 2 rfl⟩) ?_
  simp only [nz1, nz2, nz3]
  refine tk 10 34 (.bool true) rfl rfl (fun _ hw => run_pick rfl rfl rfl) (⟨hm30.at 0 rfl, hm30.at 2 rfl⟩) ?_
  simp only [nz1, nz2, nz3]
  refine tk 11 35 (.bool true) rfl rfl (fun _ hw => run_mv rfl rfl) (⟨hm30.at 0 rfl, hm30.at 2 rfl⟩) ?_
  simp only [nz1, nz2, nz3]
  refine Sym.take_at 12 36 (.agg #[.int .i64 (x.kind), .int .i64 (x.mode), .int .i64 (x.uid), .int .i64 (x.gid), .int .i64 (x.time), .int .i64 (x.links), .int .i64 (x.size), v]) rfl rfl (by kernel_rfl) (by kernel_rfl) (by kernel_rfl) (fun _ _ _ h => h) rfl (fun _ hw => r_whole hw.1 Try.underlying48 rfl (by exact sz_node) rfl rfl) (⟨hm30.at 0 rfl, hm30.at 2 rfl⟩) ?_
  simp only [nz1, nz2, nz3]
  refine Sym.take_at 14 38 (.agg #[.int .i64 (x.kind), .int .i64 (x.mode), .int .i64 (x.uid), .int .i64 (x.gid), .int .i64 (x.time), .int .i64 (x.links), .int .i64 (x.size), v]) rfl rfl (by kernel_rfl) (by kernel_rfl) (by kernel_rfl) (fun _ _ _ h => h) rfl (fun _ hw => r_whole hw.1 Try.underlying48 rfl (by exact sz_node) rfl rfl) (⟨hm30.at 0 rfl, hm30.at 2 rfl⟩) ?_
  simp only [nz1, nz2, nz3]
  refine one_ready 13 (by kernel_rfl) ?_
  refine opd rfl rfl (m_call hm30 37 (.bool (decide (CheckP x))) rfl (run_Check rfl rfl) (check_any x v _ (hb.below hm30.below)) (fun w31 (hm32 : Mm none w w31 [.blk g4 #[.int .i64 (x.kind), .int .i64 (x.mode), .int .i64 (x.uid), .int .i64 (x.gid), .int .i64 (x.time), .int .i64 (x.links), .int .i64 (x.size), v] 48, .row q14 ((readN (bytesR x)).blocks.length) ((readN (bytesR x)).blocks.map iv) 3 1, .blk g22 #[.int .i64 ((readN (bytesR x)).kind), .int .i64 ((readN (bytesR x)).mode), .int .i64 ((readN (bytesR x)).uid), .int .i64 ((readN (bytesR x)).gid), .int .i64 ((readN (bytesR x)).time), .int .i64 ((readN (bytesR x)).links), .int .i64 ((readN (bytesR x)).size), q14] 48]) => ?_))
  refine ⟨⟨hm32.at 0 rfl, hm32.at 2 rfl⟩, ?_⟩
  simp only [nz1, nz2, nz3]
  refine one_ready 15 (by kernel_rfl) ?_
  refine opd rfl rfl (m_call hm32 39 (.bool (decide (CheckP x))) rfl (run_rCheck rfl rfl) (rcheck_any x v _ (hb.below hm32.below)) (fun w33 (hm34 : Mm none w w33 [.blk g4 #[.int .i64 (x.kind), .int .i64 (x.mode), .int .i64 (x.uid), .int .i64 (x.gid), .int .i64 (x.time), .int .i64 (x.links), .int .i64 (x.size), v] 48, .row q14 ((readN (bytesR x)).blocks.length) ((readN (bytesR x)).blocks.map iv) 3 1, .blk g22 #[.int .i64 ((readN (bytesR x)).kind), .int .i64 ((readN (bytesR x)).mode), .int .i64 ((readN (bytesR x)).uid), .int .i64 ((readN (bytesR x)).gid), .int .i64 ((readN (bytesR x)).time), .int .i64 ((readN (bytesR x)).links), .int .i64 ((readN (bytesR x)).size), q14] 48]) => ?_))
  refine ⟨⟨hm34.at 0 rfl, hm34.at 2 rfl⟩, ?_⟩
  simp only [nz1, nz2, nz3]
  refine Sym.take_at 16 40 (.bool true) rfl rfl (by kernel_rfl) (by kernel_rfl) (by kernel_rfl) (fun _ _ _ h => h) rfl (fun _ hw => b_eqlt (decide (CheckP x)) rfl rfl rfl) (⟨hm34.at 0 rfl, hm34.at 2 rfl⟩) ?_
  simp only [nz1, nz2, nz3]
  refine tk 17 41 (.bool true) rfl rfl (fun _ hw => run_pick rfl rfl rfl) (⟨hm34.at 0 rfl, hm34.at 2 rfl⟩) ?_
  simp only [nz1, nz2, nz3]
  refine tk 18 42 (.bool true) rfl rfl (fun _ hw => run_mv rfl rfl) (⟨hm34.at 0 rfl, hm34.at 2 rfl⟩) ?_
  simp only [nz1, nz2, nz3]
  refine Sym.take_at 19 43 (.int .i64 (errR x)) rfl rfl (by kernel_rfl) (by kernel_rfl) (by kernel_rfl) (fun _ _ _ h => h) rfl (fun _ hw => run_mv rfl rfl) (⟨hm34.at 0 rfl, hm34.at 2 rfl⟩) ?_
  simp only [nz1, nz2, nz3]
  refine tkb 20 44 (¬ errR x = ((0 : Nat) : Int)) rfl rfl rfl (fun _ hw => z_neq (errR x) ((0 : Nat) : Int) rfl rfl rfl) (⟨hm34.at 0 rfl, hm34.at 2 rfl⟩) (fun hs35 => ?_) (fun hs35 => ?_)
  · simp only [nz1, nz2, nz3]
    refine Sym.take_at 21 45 (.bool true) rfl rfl (by kernel_rfl) (by kernel_rfl) (by kernel_rfl) (fun _ _ _ h => h) rfl (fun _ hw => run_mv rfl rfl) (⟨hm34.at 0 rfl, hm34.at 2 rfl⟩) ?_
    simp only [nz1, nz2, nz3]
    refine skx 22 46 rfl rfl rfl (⟨hm34.at 0 rfl, hm34.at 2 rfl⟩) ?_
    simp only [nz1, nz2, nz3]
    refine skx 23 47 rfl rfl rfl (⟨hm34.at 0 rfl, hm34.at 2 rfl⟩) ?_
    simp only [nz1, nz2, nz3]
    refine skx 24 48 rfl rfl rfl (⟨hm34.at 0 rfl, hm34.at 2 rfl⟩) ?_
    simp only [nz1, nz2, nz3]
    refine skx 25 49 rfl rfl rfl (⟨hm34.at 0 rfl, hm34.at 2 rfl⟩) ?_
    simp only [nz1, nz2, nz3]
    refine skx 26 50 rfl rfl rfl (⟨hm34.at 0 rfl, hm34.at 2 rfl⟩) ?_
    simp only [nz1, nz2, nz3]
    refine skx 27 51 rfl rfl rfl (⟨hm34.at 0 rfl, hm34.at 2 rfl⟩) ?_
    simp only [nz1, nz2, nz3]
    refine skx 28 52 rfl rfl rfl (⟨hm34.at 0 rfl, hm34.at 2 rfl⟩) ?_
    simp only [nz1, nz2, nz3]
    refine Sym.take_at 29 53 (.bool true) rfl rfl (by kernel_rfl) (by kernel_rfl) (by kernel_rfl) (fun _ _ _ h => h) rfl (fun _ hw => run_pick rfl rfl rfl) (⟨hm34.at 0 rfl, hm34.at 2 rfl⟩) ?_
    simp only [nz1, nz2, nz3]
    refine tk 30 54 (.bool true) rfl rfl (fun _ hw => run_pick rfl rfl rfl) (⟨hm34.at 0 rfl, hm34.at 2 rfl⟩) ?_
    simp only [nz1, nz2, nz3]
    refine one_ready 31 (by kernel_rfl) ?_
    refine opd rfl (wanted_none rfl) (w_value 2 (.bool true) rfl (run_as rfl rfl) ⟨⟨hm34.at 0 rfl, hm34.at 2 rfl⟩, ?_⟩)
    simp only [nz1, nz2, nz3]
    refine wpAnyH_done (by kernel_rfl) ?_ _
    refine then_n (hK26 _ _ ?_)
    refine wp_ret ?_
    exact ⟨rfl, .bool true, res_t rfl rfl, ⟨rfl, hm34.below⟩⟩
  simp only [nz1, nz2, nz3]
  refine Sym.take_at 21 45 (.bool false) rfl rfl (by kernel_rfl) (by kernel_rfl) (by kernel_rfl) (fun _ _ _ h => h) rfl (fun _ hw => run_mv rfl rfl) (⟨hm34.at 0 rfl, hm34.at 2 rfl⟩) ?_
  simp only [nz1, nz2, nz3]
  refine Sym.take_at 22 46 (.int .i64 (errRd (bytesR x))) rfl rfl (by kernel_rfl) (by kernel_rfl) (by kernel_rfl) (fun _ _ _ h => h) rfl (fun _ hw => run_mv rfl rfl) (⟨hm34.at 0 rfl, hm34.at 2 rfl⟩) ?_
  simp only [nz1, nz2, nz3]
  refine Sym.take_at 23 47 (.bool true) rfl rfl (by kernel_rfl) (by kernel_rfl) (by kernel_rfl) (fun _ _ _ h => h) rfl (fun _ hw => z_eqlt (errRd (bytesR x)) 0 (read_back (errR_ok (Classical.not_not.1 hs35)) ht).2 rfl rfl rfl) (⟨hm34.at 0 rfl, hm34.at 2 rfl⟩) ?_
  simp only [nz1, nz2, nz3]
  refine Sym.take_at 24 48 (.bool true) rfl rfl (by kernel_rfl) (by kernel_rfl) (by kernel_rfl) (fun _ _ _ h => h) rfl (fun _ hw => run_mv rfl rfl) (⟨hm34.at 0 rfl, hm34.at 2 rfl⟩) ?_
  simp only [nz1, nz2, nz3]
  refine Sym.take_at 25 49 (.agg #[.int .i64 (x.kind), .int .i64 (x.mode), .int .i64 (x.uid), .int .i64 (x.gid), .int .i64 (x.time), .int .i64 (x.links), .int .i64 (x.size), v]) rfl rfl (by kernel_rfl) (by kernel_rfl) (by kernel_rfl) (fun _ _ _ h => h) rfl (fun _ hw => r_whole hw.1 Try.underlying48 rfl (by exact sz_node) rfl rfl) (⟨hm34.at 0 rfl, hm34.at 2 rfl⟩) ?_
  simp only [nz1, nz2, nz3]
  refine Sym.take_at 26 50 (.agg #[.int .i64 ((readN (bytesR x)).kind), .int .i64 ((readN (bytesR x)).mode), .int .i64 ((readN (bytesR x)).uid), .int .i64 ((readN (bytesR x)).gid), .int .i64 ((readN (bytesR x)).time), .int .i64 ((readN (bytesR x)).links), .int .i64 ((readN (bytesR x)).size), q14]) rfl rfl (by kernel_rfl) (by kernel_rfl) (by kernel_rfl) (fun _ _ _ h => h) rfl (fun _ hw => r_whole hw.2 Try.underlying48 rfl (by exact sz_node) rfl rfl) (⟨hm34.at 0 rfl, hm34.at 2 rfl⟩) ?_
  simp only [nz1, nz2, nz3]
  refine one_ready 27 (by kernel_rfl) ?_
  refine opd rfl rfl (m_call hm34 51 (.bool true) rfl (run_rSame rfl rfl rfl) (rsame_eq x (readN (bytesR x)) (read_back (errR_ok (Classical.not_not.1 hs35)) ht).1 v q14 _ (hb.below hm34.below) (Rd.of_row (hm34.row 1 rfl)) (by have := check_len (errR_ok (Classical.not_not.1 hs35)); omega)) (fun w36 (hm37 : Mm none w w36 [.blk g4 #[.int .i64 (x.kind), .int .i64 (x.mode), .int .i64 (x.uid), .int .i64 (x.gid), .int .i64 (x.time), .int .i64 (x.links), .int .i64 (x.size), v] 48, .row q14 ((readN (bytesR x)).blocks.length) ((readN (bytesR x)).blocks.map iv) 3 1, .blk g22 #[.int .i64 ((readN (bytesR x)).kind), .int .i64 ((readN (bytesR x)).mode), .int .i64 ((readN (bytesR x)).uid), .int .i64 ((readN (bytesR x)).gid), .int .i64 ((readN (bytesR x)).time), .int .i64 ((readN (bytesR x)).links), .int .i64 ((readN (bytesR x)).size), q14] 48]) => ?_))
  refine ⟨⟨hm37.at 0 rfl, hm37.at 2 rfl⟩, ?_⟩
  simp only [nz1, nz2, nz3]
  refine Sym.take_at 28 52 (.bool true) rfl rfl (by kernel_rfl) (by kernel_rfl) (by kernel_rfl) (fun _ _ _ h => h) rfl (fun _ hw => run_pick rfl rfl rfl) (⟨hm37.at 0 rfl, hm37.at 2 rfl⟩) ?_
  simp only [nz1, nz2, nz3]
  refine Sym.take_at 29 53 (.bool true) rfl rfl (by kernel_rfl) (by kernel_rfl) (by kernel_rfl) (fun _ _ _ h => h) rfl (fun _ hw => run_pickf rfl rfl rfl) (⟨hm37.at 0 rfl, hm37.at 2 rfl⟩) ?_
  simp only [nz1, nz2, nz3]
  refine tk 30 54 (.bool true) rfl rfl (fun _ hw => run_pick rfl rfl rfl) (⟨hm37.at 0 rfl, hm37.at 2 rfl⟩) ?_
  simp only [nz1, nz2, nz3]
  refine one_ready 31 (by kernel_rfl) ?_
  refine opd rfl (wanted_none rfl) (w_value 2 (.bool true) rfl (run_as rfl rfl) ⟨⟨hm37.at 0 rfl, hm37.at 2 rfl⟩, ?_⟩)
  simp only [nz1, nz2, nz3]
  refine wpAnyH_done (by kernel_rfl) ?_ _
  refine then_n (hK26 _ _ ?_)
  refine wp_ret ?_
  exact ⟨rfl, .bool true, res_t rfl rfl, ⟨rfl, hm37.below⟩⟩
set_option maxRecDepth 100000 in
theorem lifted (os : Os) (started : os.Started) (H : Type) (enc : TypeId × Value → H) :
    ReturnsInHanded {} Try.checked os 8 .any (Rows.inodeBytesSpec.pre6 enc Try.prog Try.f8 Rows.inodeBytesRow.domain false) (Rows.inodeBytesSpec.post enc Try.prog Try.f8 false true false false) := by
  refine returnsInHanded_of_change (C := Try.checked) own started (by kernel_rfl) Try.func8
    (ChangeSpec.witness6 (enc := enc) (C := Try.checked) false ⟨#[], #[.agg #[.int .i64 0, .int .i64 0, .int .i64 0, .int .i64 0, .int .i64 0, .int .i64 0, .int .i64 0, .slice none 0 0]], []⟩ 8 (by kernel_rfl) (by kernel_rfl) (by kernel_rfl) (by kernel_rfl)) ?_
  intro W base args ds gs before hval0 hW hcnd _
  have hval : ∀ (j : Nat) t v, Try.f8.params[j]? = some t → args[j]? = some v → Value.okWide Try.prog W .any base t v := hval0
  have hW' := hW
  obtain ⟨p, q, hA0, hV, rfl, hfz, hnd⟩ := hW
  have hA : DataW.TrodAll enc Try.prog W 0 (fun _ => true) true Try.f8.params.toList args.toList ds p := hA0
  rw [Try.params8] at hA hval
  obtain ⟨v0, vs0, d0, ds0, p0, q0, hargs, rfl, rfl, h0, r0⟩ := trodAll_cons hA
  obtain ⟨rfl, rfl, rfl⟩ := trodAll_nil r0
  obtain rfl : args = #[v0] := by cases args; simp_all
  obtain ⟨rfl, rfl⟩ := trodVars_none hV
  have h0k := h0
  have hlt : ∀ y ∈ p0, y.block < W.heap.size := fun y hy => hW'.lt y (by simp [hy])
  obtain ⟨x0, s0, rfl, rd0, ht0, _⟩ := open_node (hval 0 48 v0 rfl rfl) h0
  clear hA0 hval0
  simp only [List.append_nil] at hW'
  refine (walk x0 s0 W rd0 ht0).mono fun e W' ⟨he, hg⟩ => ?_
  subst he
  exact ⟨_, rfl, _, _, _, [], _, [], hW', (trodAll_cons_mk (shut_bool Try.underlying4 _) trodAll_mk0), (trodAll_cons_mk (Below.trod laidOut (by kernel_rfl) (of_decide_eq_true (by kernel_rfl)) h0k hg hlt) trodAll_mk0), rfl, hg.frame _, fun h => by cases h⟩

theorem over : Rows.inodeBytesRow.holds Try.pinned (OpenSpec.ofChange Rows.inodeBytesSpec) :=
  OpenClaim.holds_of_wide 8 Try.f8 rfl rfl rfl rfl rfl rfl rfl ⟨rfl, rfl, rfl, rfl, rfl⟩ rfl rfl rfl rfl rfl (by kernel_rfl) Try.func8 (by kernel_rfl)
    (of_decide_eq_true (by kernel_rfl)) (by unfold Func.isWrapper; first | (rw [if_pos (by decide +kernel)]; kernel_rfl) | (rw [if_neg (by decide +kernel)]; exact ⟨rfl, rfl⟩))
    (fun os started H enc _ => lifted os started H enc)

/-- The statement. -/
theorem proved : Rows.InodeBytesSaid :=
  over
#print axioms proved
end Go.Proofs.Ytmammofbgllceaa.inodeBytes
